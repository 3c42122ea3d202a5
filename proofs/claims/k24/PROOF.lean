import PyProof.Rows.All
import Wide.All
import OpenK.AllK
import Wide.FinOn
import PyProof.EqAt
import PyProof.EqKinds
import PyProof.TupleCall
import KE.KDictOf
import PyProof.AttrMissSeq
import PyProof.ListNew
import PyProof.Rows.TupDisplay
import PyProof.DictCompW
import PyProof.WalksMore
import PyProof.MinMaxWalk
import PyProof.DictDisplay
import PyProof.DictWalks
import Lean
import PySem.Challenge.RW_ablehands_k24_whole_blocks_and_loads
open List renaming length_map -> Qa,getElem?_eq_getElem -> Qc,getElem?_eq_some_iff -> Qd,mem_of_getElem? -> Qe,getElem?_map -> Qg,size_toArray -> Qj,mem_cons_self -> Qk,mem_cons -> Ql,mem_append_right -> Qo,map_append -> Qp,mem_cons_of_mem -> Qq,mem_filter -> Qr,mem_singleton -> Qs,all_eq_true -> Qu,length_append -> Qv,filter_cons -> Qw,mem_map -> Qx,not_mem_nil -> Ja,map_cons -> Jc,length_take -> Jd,length_filter_le -> Je,getElem?_append_left -> Jg,length_cons -> Jh,getD_eq_getElem?_getD -> Ji,take_length -> Jk,mem_append -> Jm,getElem?_append_right -> Jn,length_pos_iff -> Jp,mem_append_left -> Jq,any_eq_true -> Ju,mem_iff_getElem? -> Jv,append_nil -> Jw,lookup_cons -> Jx,mem_range -> Jy,length_singleton -> Jz,nodup_iff_pairwise_ne -> Xb,take_of_length_le -> Xe,length_replicate -> Xg,nodup_cons -> Xi,filter_append -> Xj,replicate_succ -> Xk,map_map -> Xl,getElem?_replicate -> Xn,getElem?_set -> Xo,length_reverse -> Xp,getElem?_zip_eq_some -> Xu,length_set -> Xv,forIn_cons -> Xw,filterMap_cons -> Xz,length_eq_zero_iff -> Za,forIn_nil -> Zc,find?_cons -> Zf,reverse_cons -> Zi,flatten_cons -> Zj,filter_congr -> Zk,getElem?_range -> Zo,map_congr_left -> Zp,filter_sublist -> Zr,map_nil -> Zt,eq_of_mem_replicate -> Zu,nil_append -> Zv,length_range -> Zx,pairwise_map -> Zy,getElem?_inj -> Zz,take_add_one -> Ya,nodup_append -> Yb,length_drop -> Ye,getElem_mem -> Yf,zipIdx_cons -> Yg,all_cons -> Yh,any_cons -> Yi,of_mem_zip -> Yk,length -> Yl,zipIdx_nil -> Ym,filter_eq_self -> Yp,any_map -> Yt,pairwise_cons -> Yu,filter_filter -> Yv,drop_eq_getElem_cons -> Yw,getElem?_cons_zero -> Wa,getElem?_cons_succ -> Wb,map_reverse -> Wc,getElem?_set_self -> Wd,drop_of_length_le -> We,filter_eq_nil_iff -> Wf,all_map -> Wh,length_zip -> Wj,filter_map -> Wk,getElem?_set_ne -> Wl,getElem?_of_mem -> Wm,mem_of_mem_take -> Wn,take_succ -> Wp,nodup_nil -> Wq,flatten_append -> Ws,zip_eq_zipWith -> Wt,mem_filterMap -> Wu,filterMap_map -> Wv
open PySem.Heap renaming get?_push_of_some -> Qb,lt_size -> Qm,get?_push_size -> Qn,size_push -> Js,get?_update_other -> Xd,get?_update_self -> Ze
open Nat renaming le_refl -> Qh,lt_of_lt_of_le -> Qi,le_trans -> Qt,lt_irrefl -> Qy,zero_le -> Jf,ne_of_lt -> Jr,min_le_left -> Jt,le_add_right -> Xq,le_succ_of_le -> Xx,lt_of_le_of_lt -> Zd,pow_le_pow_right -> Zm,succ_le_succ -> Zn,le_of_lt -> Zs,ne_of_gt -> Yd,log2_lt -> Wz
open Bool renaming false_ne_true -> Qz,and_eq_true -> Jj,eq_iff_iff -> Jl,false_eq_true -> Xc,true_and -> Xr,false_and -> Yc,false_or -> Yj,true_or -> Wg
open Option renaming map_eq_some_iff -> Jb,map_some -> Xa,isSome_iff_exists -> Yx,isSome_map -> Yz,isSome_some -> Ww,getD_none -> Wy
open Int renaming mul_assoc -> Jo,le_refl -> Xf,mul_comm -> Xh,lt_of_le_of_lt -> Xm,emod_lt_of_pos -> Xs,mul_right_comm -> Xt,mul_le_mul_of_nonneg_right -> Xy,mul_le_mul_of_nonneg_left -> Zb,emod_nonneg -> Zg,le_of_lt -> Zh,fdiv_eq_ediv_of_nonneg -> Zl,toNat_of_nonneg -> Zq,mul_ediv_mul_of_pos -> Zw,mul_add -> Yn,mul_lt_mul_of_pos_right -> Yo,le_of_mul_le_mul_right -> Yq,eq_of_mul_eq_mul_right -> Yr,zero_add -> Ys,toNat_natCast -> Yy,emod_add_mul_ediv -> Wi,mul_ediv_cancel' -> Wo,add_mul -> Wr,add_zero -> Wx
def PySem.W.Fast.tw5225968165477257559:Nat:=0
def PySem.W.Fast.tw8774046495443205678:Nat:=0
def PySem.W.Fast.tw6947128586285901522:Nat:=0
def PySem.W.Fast.tw16225071856805021454:Nat:=0
def PySem.W.Fast.tw17087640840084778307:Nat:=0
def PySem.W.Fast.tw4897858399171819989:Nat:=0
def PySem.W.Fast.tw11151425166331243467:Nat:=0
def PySem.W.Fast.tw16805333607587855337:Nat:=0
def PySem.W.Fast.tw17030463392648055592:Nat:=0
def PySem.W.Fast.tw7183522218467328360:Nat:=0
def PySem.W.Fast.tw9582538009369915448:Nat:=0
def PySem.W.Fast.tw12844973619744637142:Nat:=0
def PySem.W.Fast.tw14230533310619940290:Nat:=0
def PySem.W.Fast.tw3631739654677825370:Nat:=0
def PySem.W.Fast.tw16736774418239996869:Nat:=0
def PySem.W.Fast.tw14291166187369216537:Nat:=0
def PySem.W.Fast.tw1938710185204459505:Nat:=0
def PySem.W.Fast.tw152656926529311628:Nat:=0
def PySem.W.Fast.tw11647441177315660630:Nat:=0
def PySem.W.Fast.tw18382010170945943198:Nat:=0
def PySem.W.Fast.tw7033583075344035332:Nat:=0
def PySem.W.Fast.tw12184305591983301750:Nat:=0
def PySem.W.Fast.tw2500638746343861063:Nat:=0
def PySem.W.Fast.tw12768821679334011400:Nat:=0
def PySem.W.Fast.tw8061930021497915738:Nat:=0
def PySem.W.Fast.tw4126951484585501437:Nat:=0
def PySem.W.Fast.tw10122826346367975789:Nat:=0
def PySem.W.Fast.tw7681074717226023824:Nat:=0
def PySem.W.Fast.tw10137129031958270214:Nat:=0
def PySem.W.Fast.tw15122768478776234336:Nat:=0
def PySem.W.Fast.tw8535842647024174088:Nat:=0
def PySem.W.Fast.tw285239931411423963:Nat:=0
def PySem.W.Fast.tw1575724562773533050:Nat:=0
def PySem.W.Fast.tw4834252319776428385:Nat:=0
def PySem.W.Fast.tw6403543955645776377:Nat:=0
def PySem.W.Fast.tw6178823338809037040:Nat:=0
def PySem.W.Fast.tw17709086030783514844:Nat:=0
def PySem.W.Fast.tw14967770467542987205:Nat:=0
def PySem.W.Fast.tw13347190808202757835:Nat:=0
def PySem.W.Fast.tw3912812458647155030:Nat:=0
def PySem.W.Fast.tw1456327450093291039:Nat:=0
def PySem.W.Fast.tw17608812059207178042:Nat:=0
def PySem.W.Fast.tw14109793513584363376:Nat:=0
def PySem.W.Fast.tw7673537266037776787:Nat:=0
def PySem.W.Fast.tw1588431388011464744:Nat:=0
def PySem.W.Fast.tw4150205652543257708:Nat:=0
def PySem.W.Fast.tw11218466255717305991:Nat:=0
def PySem.W.Fast.tw7311768126973531964:Nat:=0
def PySem.W.Fast.tw9315919160132798852:Nat:=0
def PySem.W.Fast.tw2273224326857533883:Nat:=0
def PySem.W.Fast.tw9869625672905072708:Nat:=0
def PySem.W.Fast.tw14385763349061211396:Nat:=0
def PySem.W.Fast.tw6933831147287843779:Nat:=0
def PySem.W.Fast.tw18073324608649864083:Nat:=0
def PySem.W.Fast.tw15761518428460151723:Nat:=0
def PySem.W.Fast.tw8137569882324489106:Nat:=0
def PySem.W.Fast.tw4785143924622454560:Nat:=0
def PySem.W.Fast.tw5625099492505357916:Nat:=0
def PySem.W.Fast.tw3361787496575452248:Nat:=0
def PySem.W.Fast.tw7412577328772561371:Nat:=0
def PySem.W.Fast.tw18137307279539833196:Nat:=0
def PySem.W.Fast.tw3324502504217164824:Nat:=0
def PySem.W.Fast.tw16092188460297490742:Nat:=0
def PySem.W.Fast.tw6691963010164275459:Nat:=0
def PySem.W.Fast.tw2741368564546437149:Nat:=0
def PySem.W.Fast.tw10001970277557141294:Nat:=0
def PySem.W.Fast.tw8824598749418473014:Nat:=0
def PySem.W.Fast.tw11640907969819060278:Nat:=0
def PySem.W.Fast.tw14431755312309699625:Nat:=0
def PySem.W.Fast.tw18001735753612329903:Nat:=0
def PySem.W.Fast.tw11309426749625588282:Nat:=0
def PySem.W.Fast.tw9513376915269519338:Nat:=0
def PySem.W.Fast.tw11227839521201932918:Nat:=0
def PySem.W.Fast.tw14130241066167556828:Nat:=0
def PySem.W.Fast.tw16111526230877617954:Nat:=0
def PySem.W.Fast.tw6535913507090877031:Nat:=0
def PySem.W.Fast.tw8568619328486335819:Nat:=0
def PySem.W.Fast.tw1679628942351255169:Nat:=0
def PySem.W.Fast.tw14814552643780008169:Nat:=0
def PySem.W.Fast.tw2226141328358884963:Nat:=0
def PySem.W.Fast.tw14549054963876163034:Nat:=0
def PySem.W.Fast.tw14950166048951340998:Nat:=0
def PySem.W.Fast.tw17700409044725211447:Nat:=0
def PySem.W.Fast.tw15424719803186173305:Nat:=0
def PySem.W.Fast.tw16469405699243188973:Nat:=0
def PySem.W.Fast.tw701771404761772226:Nat:=0
def PySem.W.Fast.tw13645295811659817570:Nat:=0
def PySem.W.Fast.tw1441169183787253532:Nat:=0
def PySem.W.Fast.tw7974387355765101770:Nat:=0
def PySem.W.Fast.tw10226574868345258015:Nat:=0
def PySem.W.Fast.tw17902168313407411401:Nat:=0
def PySem.W.Fast.tw16867994178609015513:Nat:=0
def PySem.W.Fast.tw5142748209461206211:Nat:=0
def PySem.W.Fast.tw18431774785443908396:Nat:=0
def PySem.W.Fast.tw6570233414502325567:Nat:=0
def PySem.W.Fast.tw16052674637152469359:Nat:=0
def PySem.W.Fast.tw13750833937000927937:Nat:=0
def PySem.W.Fast.tw3532488987971458675:Nat:=0
def PySem.W.Fast.tw7859721611697037443:Nat:=0
def PySem.W.Fast.tw4783840553613849899:Nat:=0
def PySem.W.Fast.tw18308737836856298590:Nat:=0
def PySem.W.Fast.tw14693861750497664626:Nat:=0
def PySem.W.Fast.tw10491611500225746908:Nat:=0
def PySem.W.Fast.tw10862413174315232131:Nat:=0
def PySem.W.Fast.tw9032764435733416180:Nat:=0
def PySem.W.Fast.tw5522374210304145173:Nat:=0
def PySem.W.Fast.tw10148558814698691507:Nat:=0
def PySem.W.Fast.tw12442792968322197270:Nat:=0
def PySem.W.Fast.tw16403809313580540865:Nat:=0
def PySem.W.Fast.tw17917952510468084211:Nat:=0
def PySem.W.Fast.tw16327137758172151455:Nat:=0
def PySem.W.Fast.tw1926003339140722454:Nat:=0
def PySem.W.Fast.tw17499901155484084836:Nat:=0
set_option Elab.async false
set_option linter.all false
set_option maxRecDepth 100000
namespace L2
open PySem PySem.Spec PyProof.Rows
abbrev Key:=Sum Int Str
def rZ:Key->Value->Bool
 | .inl k,v=>Value.isInt k v
 | .inr x,v=>Value.isStrOf x v
def aFi (w:World):Key->Int
 | .inl k=>hashInt k
 | .inr x=>hashStr w x
theorem cQ:∀ {k:Key} {v:Value},rZ k v=true->(∃ i t,k=Sum.inl i/\v=Value.int i t)∨(∃ x t,k=Sum.inr x/\v=Value.str x t)
 | .inl i,v,h=>by
  obtain ⟨t,e⟩:=Value.isInt_shape (k:=i) (v:=v) h
  exact .inl ⟨i,t,rfl,e⟩
 | .inr x,v,h=>by
  obtain ⟨t,e⟩:=Value.isStrOf_shape (x:=x) (v:=v) h
  exact .inr ⟨x,t,rfl,e⟩
theorem zY (i:Int) (t:Tok):rZ (.inl i) (.int i t)=true:=by simp [rZ,Value.isInt]
theorem zZ (x:Str) (t:Tok):rZ (.inr x) (.str x t)=true:=by simp [rZ,Value.isStrOf]
theorem aDI (a b:Int):decide ((Sum.inl a:Key)=Sum.inl b)=(a==b):=by
 by_cases e:a=b
 ·subst e; simp
 ·have h:¬ (Sum.inl a:Key)=Sum.inl b:=fun q=>e (Sum.inl.inj q)
  rw [decide_eq_false h]
  exact (beq_eq_false_iff_ne.mpr e).symm
theorem aDJ (a b:Str):decide ((Sum.inr a:Key)=Sum.inr b)=decide (a=b):=by
 by_cases e:a=b
 ·subst e; simp
 ·have h:¬ (Sum.inr a:Key)=Sum.inr b:=fun q=>e (Sum.inr.inj q)
  rw [decide_eq_false h,decide_eq_false e]
theorem aDK (a:Int) (b:Str):decide ((Sum.inl a:Key)=Sum.inr b)=false:=decide_eq_false (fun q=>nomatch q)
theorem aDL (a:Str) (b:Int):decide ((Sum.inr a:Key)=Sum.inl b)=false:=decide_eq_false (fun q=>nomatch q)
def bG (prog:Program) (w:World):PySem.KeyKind prog w Key where
 is:=rZ
 hash:=aFi w
 inj:=fun v a b ha hb=>by
  rcases cQ ha with ⟨i,t,rfl,rfl⟩ | ⟨x,t,rfl,rfl⟩
  ·rcases cQ hb with ⟨j,u,rfl,e⟩ | ⟨y,u,rfl,e⟩
   ·injection e with e1 _; rw [e1]
   ·exact nomatch e
  ·rcases cQ hb with ⟨j,u,rfl,e⟩ | ⟨y,u,rfl,e⟩
   ·exact nomatch e
   ·injection e with e1 _; rw [e1]
 byValue:=fun k v h=>by
  rcases cQ h with ⟨i,t,rfl,rfl⟩ | ⟨x,t,rfl,rfl⟩ <;> rfl
 pyHash:=fun hv h=>by
  rcases cQ hv with ⟨i,t,rfl,rfl⟩ | ⟨x,t,rfl,rfl⟩
  ·exact wpAny_pyHash_int h
  ·exact wpAny_pyHash_str h
 eqBool:=fun hu hv h=>by
  rcases cQ hu with ⟨i,t,rfl,rfl⟩ | ⟨x,t,rfl,rfl⟩
  ·rcases cQ hv with ⟨j,u,rfl,rfl⟩ | ⟨y,u,rfl,rfl⟩
   ·rw [aDI] at h; exact wpAny_eqBool_int h
   ·rw [aDK] at h; exact SeqAt.EqAt.int_str i t y u _ _ _ _ h
  ·rcases cQ hv with ⟨j,u,rfl,rfl⟩ | ⟨y,u,rfl,rfl⟩
   ·rw [aDL] at h; exact SeqAt.EqAt.str_int x t j u _ _ _ _ h
   ·rw [aDJ] at h; exact wpAny_eqBool_str h
 «strs»:=fun k x t v h=>by
  rcases cQ h with ⟨i,u,rfl,e⟩ | ⟨y,u,rfl,e⟩
  ·exact nomatch e
  ·injection e with e1 _
   subst e1
   cases v <;> rfl
theorem uX (prog:Program) (w:World) (i:Int) (t:Tok):(bG prog w).is (.inl i) (.int i t)=true:=zY i t
theorem uY (prog:Program) (w:World) (x:Str) (t:Tok):(bG prog w).is (.inr x) (.str x t)=true:=zZ x t
inductive V where
 | non | bl (b:Bool) | int (i:Int) | str (x:Str) | byt (b:Array UInt8) | flt (b:UInt64) | ref (a:Addr) | ty (n:String)
 deriving DecidableEq
def bI:V->Value->Prop
 | .non,u=>u=Value.none
 | .bl b,u=>u=Value.bool b
 | .int i,u=>∃ t,u=Value.int i t
 | .str x,u=>∃ t,u=Value.str x t
 | .byt b,u=>∃ t,u=Value.bytes b t
 | .flt b,u=>∃ t,u=Value.float b t
 | .ref a,u=>u=Value.ref a
 | .ty n,u=>u=Value.type n
abbrev bF:List V->List Value->Prop:=Paired bI
theorem bF.length {xs:List V} {us:List Value} (r:bF xs us):xs.length=us.length:=Paired.length r
theorem bF.get:∀ {xs:List V} {us:List Value} {i:Nat} {x:V},bF xs us->xs[i]?=some x->∃ u,us[i]?=some u/\bI x u
 | _,_,_,_,.nil,e=>by simp at e
 | _,_,0,_,.cons r _,e=>by simp at e; subst e; exact ⟨_,rfl,r⟩
 | _,_,i+1,x,.cons _ t,e=>by
  obtain ⟨u,h1,h2⟩:=bF.get (i:=i) (x:=x) t (by simpa using e)
  exact ⟨u,by simpa using h1,h2⟩
theorem bF.set {x:V} {u:Value} (r:bI x u):∀ {xs:List V} {us:List Value} (i:Nat),bF xs us->bF (xs.set i x) (us.set i u)
 | _,_,_,.nil=>.nil
 | _,_,0,.cons _ t=>.cons r t
 | _,_,i+1,.cons q t=>.cons q (bF.set r i t)
theorem bF.append:∀ {xs ys:List V} {us ws:List Value},bF xs us->bF ys ws->bF (xs++ys) (us++ws)
 := by
 intro xs ys us ws h s
 induction h with
 | nil=>exact s
 | cons r t ih=>exact .cons r ih
theorem bF.take:∀ {xs:List V} {us:List Value} (n:Nat),bF xs us->bF (xs.take n) (us.take n)
 | _,_,0,_=>.nil
 | _,_,_+1,.nil=>.nil
 | _,_,n+1,.cons r t=>.cons r (bF.take n t)
theorem bF.drop:∀ {xs:List V} {us:List Value} (n:Nat),bF xs us->bF (xs.drop n) (us.drop n)
 | _,_,0,r=>r
 | _,_,_+1,.nil=>.nil
 | _,_,n+1,.cons _ t=>bF.drop n t
def oS:Option V->Option Value->Prop
 | some v,some u=>bI v u
 | none,none=>True
 | _,_=>False
def KV {κ:Type}:List (κ×V)->List (κ×Value)->Prop:=Paired fun (p:κ×V) (q:κ×Value)=>p.1=q.1/\bI p.2 q.2
def kV:Key->V
 | .inl i=>.int i
 | .inr x=>.str x
inductive HO where
 /-- a list -/
 | lst (xs:List V)
 /-- a tuple (never changes) -/
 | tup (xs:List V)
 /-- a dict whose keys are ints and texts; one whose keys are tuples of ints and texts (the empty one is both) -/
 | dK (kvs:List (Key×V)) | dT (kvs:List (List Key×V))
 /-- a set of ints: its members,its size -/
 | set (S:Int->Bool) (n:Nat)
 /-- an instance of the class at C,its dict at dx,its attributes -/
 | ins (C dx:Addr) (fs:List (Str×V))
 /-- the dict of the instance at x -/
 | own (x:Addr)
 /-- the dict of an exception -/
 | xd (fs:List (Str×V))
 /-- a bound method,f of x -/
 | met (f x:Addr)
 /-- a range object lo,lo+1,.. below hi -/
 | rng (lo hi:Int)
 /-- a thing that is known to the object (the script; a dict while a loop walks it): read,never written while it is so -/
 | frz (o:Obj) (u:HO)
 /-- a code object's table -/
 | tbl (ps:Array Value)
 /-- a code object's table,all of whose codes have the name q; they are tracked as its own -/
 | tab (q:Str)
 /-- any other thing,by what is true of its one object (a def of one's own: aFA a S n:=HO.ext fun h=>..) -/
 | ext (φ:Heap->Prop)
abbrev Hp:=Addr->Option HO
def upd (H:Hp) (a:Addr) (o:HO):Hp:=fun b=>if b=a then some o else H b
theorem aB {H:Hp} {a:Addr} {o:HO}:upd H a o a=some o:=by unfold upd; rw [if_pos rfl]
theorem aG {H:Hp} {a b:Addr} {o:HO} (h:b≠a):upd H a o b=H b:=by unfold upd; rw [if_neg h]
theorem yF {H:Hp} {a:Addr} {o u:HO}:upd (upd H a o) a u=upd H a u:=by
 funext b; unfold upd; split <;> rfl
theorem aEq {H:Hp} {a b:Addr} {o u:HO} (h:H a=some o) (h':H b=some u) (d:o≠u):a≠b:=by
 intro e; subst e; rw [h] at h'; exact d (Option.some.inj h')
theorem hG {H:Hp} {a b:Addr} {o:HO} (h:H a=some o) (h':H b=none):a≠b:=by
 intro e; subst e; rw [h] at h'; cases h'
section
variable (P:Program) (w:World)
def cJ (H:Hp) (h:Heap) (a:Addr):HO->Prop
 | .lst xs=>xs.length<=sizeLine/\∃ (its:List Value) (n:Nat),bF xs its/\h.get? a=some { cls:=.type "list",data:=.seq its.toArray n }
 | .tup xs=>xs.length<=sizeLine/\∃ (its:List Value) (n:Nat),bF xs its/\h.get? a=some { cls:=.type "tuple",data:=.seq its.toArray n }
 | .dK kvs=>kvs.length<=sizeLine/\(a==sysModules)=false/\∃ vs,KV kvs vs/\h.DictOf (bG P w) a vs
 | .dT kvs => kvs.length <= sizeLine /\ (a == sysModules) = false /\ ∃ xs : List (List Key × Addr × Value),
     Paired (fun (p:List Key×V) (q:List Key×Addr×Value)=>p.1=q.1/\H q.2.1=some (.tup (p.1.map kV))/\bI p.2 q.2.2) kvs xs /\
     ∃ o es ep,h.get? a=some o/\o.ExactDict/\o.data=.dict es ep/\es.toList=xs.map (entryOfKey (tupleKind (bG P w)))/\(xs.map (·.1)).Nodup
 | .set S n=>h.SetOf (intKind P w) a S n
 | .ins C dx fs => H dx = some (.own a) /\ fs.length <= 1000 /\ dx ≠ a /\ h.get? a = some (PySem.W.instObj C dx) /\
     ∃ mA,h.Ns1 dx mA/\(∀ f,oS (fs.lookup f) (mA f))/\PySem.Within mA (fs.map (·.1))
 | .own _=>∃ o,h.get? a=some o
 | .xd fs=>∃ mA,h.Ns1 a mA/\∀ f,oS (fs.lookup f) (mA f)
 | .rng lo hi=>∃ t u v,h.get? a=some { cls:=.type "range",data:=.fields #[.int lo t,.int hi u,.int 1 v] }
 | .frz o u=>h.get? a=some o/\cJ H h a u
 | .tbl ps=>h.get? a=some { cls:=.none,data:=.fields ps }
 | .tab q=>∃ ps:Array Value,h.get? a=some { cls:=.none,data:=.fields ps }/\TriplesOk ps.toList/\∀ (pos:Pos) (cv:Value),codeAmong pos ps.toList=some cv->∃ (c:Addr) (o:Obj) (vs:Array Value) (t:Tok),cv=.ref c/\H c=some (.own a)/\h.get? c=some o/\o.data=.fields vs/\vs[1]?=some (.str q t)
 | .met f x=>h.get? a=some (PySem.W.methodObj (.ref f) (.ref x))
 | .ext φ=>φ h/\(∃ o,h.get? a=some o)/\∀ h1 h2:Heap,φ h1->(∀ o,h1.get? a=some o->h2.get? a=some o)->φ h2
def HOk (H:Hp) (h:Heap):Prop:=∀ a o,H a=some o->cJ P w H h a o
end
section
variable {P:Program} {w:World} {H H':Hp} {h h':Heap} {a:Addr} {o:HO}
theorem cJ.lt (x:cJ P w H h a o):a < h.objs.size:=by
 cases o with
 | lst xs=>obtain ⟨_,_,_,_,e⟩:=x; exact Qm e
 | tup xs=>obtain ⟨_,_,_,_,e⟩:=x; exact Qm e
 | dK kvs=>obtain ⟨_,_,_,_,o,_,_,e,_⟩:=x; exact Qm e
 | dT kvs=>obtain ⟨_,_,_,_,o,_,_,e,_⟩:=x; exact Qm e
 | set S n=>obtain ⟨o,_,_,_,e,_⟩:=x; exact Qm e
 | ins C dx fs=>obtain ⟨_,_,_,e,_⟩:=x; exact Qm e
 | own y=>obtain ⟨_,e⟩:=x; exact Qm e
 | xd fs=>obtain ⟨_,⟨_,_,_,e,_⟩,_⟩:=x; exact Qm e
 | rng lo hi=>obtain ⟨_,_,_,e⟩:=x; exact Qm e
 | frz ob u=>obtain ⟨e,_⟩:=x; exact Qm e
 | tbl ps=>exact Qm (show h.get? a=some _ from x)
 | tab q=>obtain ⟨_,e,_⟩:=x; exact Qm e
 | met f y=>exact Qm (show h.get? a=some _ from x)
 | ext φ=>obtain ⟨_,⟨_,e⟩,_⟩:=x; exact Qm e
theorem Paired.mapP {α β:Type} {F G:α->β->Prop}:∀ {l₁:List α} {l₂:List β},Paired F l₁ l₂->(∀ a b,F a b->G a b)->Paired G l₁ l₂
 := by
 intro l₁ l₂ h f
 induction h with
 | nil=>exact .nil
 | cons r t ih=>exact .cons (f _ _ r) ih
theorem cJ.stay (x:cJ P w H h a o) (k:∀ b u,(b=a∨H b=some (.own a))->h.get? b=some u->h'.get? b=some u)
  (ho:∀ b,H b=some (.own a)->H' b=some (.own a)) (ht:∀ b xs,H b=some (.tup xs)->H' b=some (.tup xs)):cJ P w H' h' a o:=by
 induction o with
 | lst xs=>obtain ⟨z,its,n,r,e⟩:=x; exact ⟨z,its,n,r,k _ _ (.inl rfl) e⟩
 | tup xs=>obtain ⟨z,its,n,r,e⟩:=x; exact ⟨z,its,n,r,k _ _ (.inl rfl) e⟩
 | dK kvs=>obtain ⟨z,y,vs,r,ob,es,ep,e,c⟩:=x; exact ⟨z,y,vs,r,ob,es,ep,k _ _ (.inl rfl) e,c⟩
 | dT kvs =>
  obtain ⟨z,y,xs,r,ob,es,ep,e,c⟩:=x
  exact ⟨z,y,xs,Paired.mapP r fun p q z=>⟨z.1,ht _ _ z.2.1,z.2.2⟩,ob,es,ep,k _ _ (.inl rfl) e,c⟩
 | set S n=>obtain ⟨ob,es,ep,t,e,c⟩:=x; exact ⟨ob,es,ep,t,k _ _ (.inl rfl) e,c⟩
 | ins C dx fs =>
  obtain ⟨d,z,ne,e,mA,⟨od,es,ep,e2,c⟩,r⟩:=x
  exact ⟨ho _ d,z,ne,k _ _ (.inl rfl) e,mA,⟨od,es,ep,k _ _ (.inr d) e2,c⟩,r⟩
 | own y=>obtain ⟨ob,e⟩:=x; exact ⟨ob,k _ _ (.inl rfl) e⟩
 | xd fs=>obtain ⟨mA,⟨od,es,ep,e,c⟩,r⟩:=x; exact ⟨mA,⟨od,es,ep,k _ _ (.inl rfl) e,c⟩,r⟩
 | rng lo hi=>obtain ⟨t,u,v,e⟩:=x; exact ⟨t,u,v,k _ _ (.inl rfl) e⟩
 | frz ob u ih=>obtain ⟨e,q⟩:=x; exact ⟨k _ _ (.inl rfl) e,ih q⟩
 | tbl ps =>
  have e:h.get? a=some { cls:=.none,data:=.fields ps }:=x
  show h'.get? a=some { cls:=.none,data:=.fields ps }
  exact k a _ (.inl rfl) e
 | tab q =>
  obtain ⟨ps,e,z,r⟩:=x
  refine ⟨ps,k _ _ (.inl rfl) e,z,fun pos cv q=>?_⟩
  obtain ⟨c,o,vs,t,r1,r2,r3,r4⟩:=r pos cv q
  exact ⟨c,o,vs,t,r1,ho _ r2,k _ _ (.inr r2) r3,r4⟩
 | met f y =>
  have e:h.get? a=some (PySem.W.methodObj (.ref f) (.ref y)):=x
  show h'.get? a=some (PySem.W.methodObj (.ref f) (.ref y))
  exact k a _ (.inl rfl) e
 | ext φ=>obtain ⟨p,⟨o,e⟩,st⟩:=x; exact ⟨st _ _ p fun o q=>k _ _ (.inl rfl) q,⟨o,k _ _ (.inl rfl) e⟩,st⟩
theorem HOk.lt (x:HOk P w H h) (e:H a=some o):a < h.objs.size:=(x a o e).lt
theorem HOk.fresh (x:HOk P w H h) (e:h.objs.size<=a):H a=none:=by
 cases q:H a with
 | none=>rfl
 | some u=>exact absurd (Qi (x.lt q) e) (Qy _)
theorem HOk.kept (x:HOk P w H h) (k:∀ b u,h.get? b=some u->h'.get? b=some u):HOk P w H h':=fun a o e =>
 (x a o e).stay (fun b u _ q=>k b u q) (fun _ q=>q) fun _ _ q=>q
theorem HOk.laid (x:HOk P w H h) (k:∀ b u,h.get? b=some u->h'.get? b=some u) (hp:h.objs.size<=a) (new:cJ P w (upd H a o) h' a o):HOk P w (upd H a o) h':=fun b u e=>by
 have hn:=x.fresh hp
 by_cases hb:b=a
 ·subst hb; rw [aB] at e; cases e; exact new
 ·rw [aG hb] at e
  exact (x b u e).stay (fun c v _ q=>k c v q) (fun c q=>by rw [aG (hG q hn)]; exact q) fun c xs q=>by rw [aG (hG q hn)]; exact q
end
def Rd (H:Hp) (a:Addr) (u:HO):Prop:=H a=some u∨∃ o,H a=some (.frz o u)
theorem Rd.of {H:Hp} {a:Addr} {u:HO} (h:H a=some u):Rd H a u:=.inl h
theorem Rd.ok {P:Program} {w:World} {H:Hp} {h:Heap} {a:Addr} {u:HO} (r:Rd H a u) (x:HOk P w H h):cJ P w H h a u:=by
 rcases r with r | ⟨o,r⟩
 ·exact x a u r
 ·obtain ⟨_,q⟩:=x a _ r
  exact q
def Mut:Option HO->Prop
 | some (.lst _)=>True
 | some (.dK _)=>True
 | some (.dT _)=>True
 | some (.set _ _)=>True
 | some (.ins _ _ _)=>True
 | some (.ext _)=>True
 | some (.tab _)=>True
 | _=>False
section
variable {P:Program} {w:World} {H:Hp} {h h':Heap} {x e:Addr} {o':HO}
theorem HOk.write (ok:HOk P w H h) (mu:Mut (H x)) (he:e=x∨H e=some (.own x)) (k:∀ b u,b≠e->h.get? b=some u->h'.get? b=some u) (heo:∃ u,h'.get? e=some u)
  (new:cJ P w (upd H x o') h' x o'):HOk P w (upd H x o') h':=fun b u q=>by
 have nown:∀ c y,H c=some (.own y)->c≠x:=fun c y r z=>by subst z; rw [r] at mu; exact mu
 have ntup:∀ c xs,H c=some (.tup xs)->c≠x:=fun c xs r z=>by subst z; rw [r] at mu; exact mu
 by_cases hb:b=x
 ·subst hb; rw [aB] at q; cases q; exact new
 ·rw [aG hb] at q
  by_cases hbe:b=e
  ·have q':H b=some (.own x):=by
    rcases he with z | z
    ·exact absurd (hbe.trans z) hb
    ·rw [hbe]; exact z
   rw [q] at q'; cases q'
   obtain ⟨v,hv⟩:=heo
   exact ⟨v,by rw [hbe]; exact hv⟩
  ·refine (ok b u q).stay (fun c v hc r=>k c v ?_ r) (fun c r=>by rw [aG (nown c b r)]; exact r) fun c xs r=>by rw [aG (ntup c xs r)]; exact r
   rcases hc with rfl | hc
   ·exact hbe
   ·rintro rfl
    rcases he with z | z
    ·exact nown c b hc z
    ·rw [hc] at z; cases z; exact hb rfl
end
structure Un (fs ex:List Addr) (H H':Hp) (h h':Heap):Prop where
 keep:∀ b o,h.get? b=some o->H b=none->b∉fs->b∉ex->h'.get? b=some o
 slot:∀ b o,h.get? b=some o->H b=none->b∈fs->b∉ex->∃ sl,h'.get? b=some { o with slots:=sl }
 free:∀ b o,h.get? b=some o->H b=none->b∉ex->H' b=none
 there:∀ b o,h.get? b=some o->b∉ex->∃ o',h'.get? b=some o'
 tups:∀ b xs,H b=some (.tup xs)->H' b=some (.tup xs)
 frzs:∀ b o u,H b=some (.frz o u)->H' b=some (.frz o u)
 tbls:∀ b ps,H b=some (.tbl ps)->∃ more,H' b=some (.tbl (ps++more))
section
variable {fs fs' ex ex':List Addr} {H H1 H2:Hp} {h h1 h2 h':Heap} {a x e:Addr} {o:HO}
theorem Un.any (u:Un fs ex H H1 h h1) {b:Addr} {ob:Obj} (q:h.get? b=some ob) (n:H b=none) (hx:b∉ex):∃ sl,h1.get? b=some { ob with slots:=sl }:=by
 by_cases hb:b∈fs
 ·exact u.slot b ob q n hb hx
 ·exact ⟨ob.slots,u.keep b ob q n hb hx⟩
theorem Un.trans (a:Un fs ex H H1 h h1) (b:Un fs ex H1 H2 h1 h2):Un fs ex H H2 h h2 where
 keep:=fun c ob q n hc hx=>b.keep c ob (a.keep c ob q n hc hx) (a.free c ob q n hx) hc hx
 slot:=fun c ob q n hc hx=>by
  obtain ⟨sl,e1⟩:=a.slot c ob q n hc hx
  obtain ⟨sl',e2⟩:=b.slot c _ e1 (a.free c ob q n hx) hc hx
  exact ⟨sl',e2⟩
 free:=fun c ob q n hx=>by
  obtain ⟨o',e1⟩:=a.there c ob q hx
  exact b.free c o' e1 (a.free c ob q n hx) hx
 there:=fun c ob q hx=>by
  obtain ⟨o',e1⟩:=a.there c ob q hx
  exact b.there c o' e1 hx
 tups:=fun c xs q=>b.tups c xs (a.tups c xs q)
 frzs:=fun c ob xs q=>b.frzs c ob xs (a.frzs c ob xs q)
 tbls:=fun c ps q=>by
  obtain ⟨m1,e1⟩:=a.tbls c ps q
  obtain ⟨m2,e2⟩:=b.tbls c _ e1
  exact ⟨m1++m2,by rw [e2,Array.append_assoc]⟩
theorem Un.kept (k:∀ b u,h.get? b=some u->h'.get? b=some u):Un fs ex H H h h' :=
 ⟨fun b ob q _ _ _=>k b ob q,fun b ob q _ _ _=>⟨ob.slots,k b ob q⟩,fun _ _ _ n _=>n,fun b ob q _=>⟨ob,k b ob q⟩,fun _ _ q=>q,fun _ _ _ q=>q,fun _ ps q=>⟨#[],by rw [q]; simp⟩⟩
theorem Un.refl:Un fs ex H H h h:=Un.kept fun _ _ q=>q
theorem Un.laid (k:∀ b u,h.get? b=some u->h'.get? b=some u) (hp:h.objs.size<=a) (hn:H a=none):Un fs ex H (upd H a o) h h' where
 keep:=fun b u q _ _ _=>k b u q
 slot:=fun b u q _ _ _=>⟨u.slots,k b u q⟩
 free:=fun b u q n _=>by rw [aG (Jr (Qi (Qm q) hp))]; exact n
 there:=fun b u q _=>⟨u,k b u q⟩
 tups:=fun b xs q=>by rw [aG (hG q hn)]; exact q
 frzs:=fun b u xs q=>by rw [aG (hG q hn)]; exact q
 tbls:=fun b ps q=>⟨#[],by rw [aG (hG q hn),q]; simp⟩
theorem Un.write (mu:Mut (H x)) (he:e=x∨H e=some (.own x)) (k:∀ b u,b≠e->h.get? b=some u->h'.get? b=some u) (heo:∃ u,h'.get? e=some u):Un fs ex H (upd H x o) h h':=by
 have hx:∀ b,H b=none->b≠x:=fun b n z=>by subst z; rw [n] at mu; exact mu
 have hb:∀ b,H b=none->b≠e:=fun b n z=>by
  subst z
  rcases he with r | r
  ·exact hx b n r
  ·rw [n] at r; cases r
 have hm:∀ b u,H b=some u->¬ Mut (some u)->b≠x:=fun b u q nm z=>by subst z; rw [q] at mu; exact nm mu
 refine ⟨fun b u q n _ _=>k b u (hb b n) q,fun b u q n _ _=>⟨u.slots,k b u (hb b n) q⟩,fun b u q n _=>by rw [aG (hx b n)]; exact n,fun b u q _=>?_,
  fun b xs q=>by rw [aG (hm b _ q fun z=>z)]; exact q,fun b u xs q=>by rw [aG (hm b _ q fun z=>z)]; exact q,fun b ps q=>⟨#[],by rw [aG (hm b _ q fun z=>z),q]; simp⟩⟩
 by_cases hbe:b=e
 ·subst hbe; exact heo
 ·exact ⟨u,k b u hbe q⟩
theorem Un.mono (u:Un fs ex H H1 h h1) (hs:∀ b∈fs,b∈fs') (hx:∀ b∈ex,b∈ex'):Un fs' ex' H H1 h h1 :=
 ⟨fun b ob q n hb he=>u.keep b ob q n (fun z=>hb (hs b z)) fun z=>he (hx b z),fun _ _ q n _ he=>u.any q n fun z=>he (hx _ z),fun b ob q n he=>u.free b ob q n fun z=>he (hx b z),fun b ob q he=>u.there b ob q fun z=>he (hx b z),u.tups,u.frzs,u.tbls⟩
end
def trk (h:Heap) (H:Hp):List Addr:=(List.range h.objs.size).filter fun a=>(H a).isSome
def tH (h:Heap) (H:Hp):Heap:=PySem.W.hideAll h (trk h H)
theorem aAa (h:Heap) (H:Hp):(tH h H).objs.size=h.objs.size:=PySem.W.hideAll_size _ _
theorem aAV {h:Heap} {H:Hp} {b:Addr} {o:Obj} (e:h.get? b=some o) (n:H b=none):(tH h H).get? b=some o :=
 PySem.W.hideAll_get _ e fun hm=>by
  have q:(H b).isSome=true:=(Qr.mp hm).2
  rw [n] at q; simp at q
theorem aCm {h:Heap} {H:Hp} {b:Addr} {o:Obj} (e:(tH h H).get? b=some o):h.get? b=some o/\H b=none:=by
 have e':h.get? b=some o:=PySem.W.of_hideAll (trk h H) e
 refine ⟨e',?_⟩
 cases q:H b with
 | none=>rfl
 | some x =>
  have hm:b∈trk h H:=Qr.mpr ⟨Jy.mpr (Qm e'),by simp [q]⟩
  have z:(tH h H).get? b=none:=PySem.W.hideAll_none (trk h H) hm
  rw [z] at e; cases e
def aCn (g h:Heap) (L:Addr):List (Addr×Obj):=(List.range h.objs.size).filterMap fun a=>if a=L∨(g.get? a).isSome=true then none else (h.get? a).map fun o=>(a,o)
def iK (g h:Heap) (L d:Addr):List (Addr×Obj):=(aCn g h L).filter fun p=>decide (p.1≠d)
structure Mod (K:PySem.W.Frag) (mg:Str->Option Value) (base:Heap):Prop where
 kin:K.In base
 glob:base.Ns mainGlobals mg
 blt:∃ mb,base.Ns builtinsNs mb/\∀ x:Str,x ≠ "__name__" -> mb x=bootBuiltins x
 nolimit:base.NoLimit
 mods:∃ mm,base.Ns sysModules mm
structure Cx where
 prog:Program
 w:World
 K:PySem.W.Frag
 mg:Str->Option Value
 base:Heap
 A:Around
 N:List Str
 s₀:Shared
 H₀:Hp
 env:Env
 outer:List Env
 stack:List Env
 ex:List Addr
 fn:Str->Bool
 calm:Bool
 pn:List (Addr×Obj)
 xe:Value->Shared->Prop
def frs (l:List Env):List Addr:=l.filterMap (·.frame)
abbrev Cx.fs (X:Cx):List Addr:=frs X.outer
def Vis (sc:Scope) (x:Str):Prop:=sc.names.lookup x=some .local∨sc.names.lookup x=some .cell∨sc.names.lookup x=some .free
def Loc (sc:Scope) (x:Str):Prop:=sc.names.lookup x=some .local∨sc.names.lookup x=some .cell
def aDM (env:Env) (h:Heap) (m:Str->Option Value) (x:Str) (u:Value):Prop :=
 (env.kindOf x=some .local/\m x=some u)∨((env.kindOf x=some .cell∨env.kindOf x=some .free)/\∃ c,env.cells.lookup x=some c/\h.IsCell c (some u))
structure Cx.Ok (X:Cx):Prop where
 mod:Mod X.K X.mg X.base
 kind:X.env.scope.kind=.function
 glob:X.env.globals=mainGlobals
 blt:X.env.builtins=builtinsNs
 above:X.s₀.heap.objs.size<=X.env.locals
 inj:∀ x y c,X.env.cells.lookup x=some c->X.env.cells.lookup y=some c->x=y
 has:∀ x,(X.env.kindOf x=some .cell∨X.env.kindOf x=some .free)->∃ c,X.env.cells.lookup x=some c
 cab:∀ x c,X.fn x=true->X.env.cells.lookup x=some c->X.s₀.heap.objs.size<=c
 hd:X.calm=true->X.A.handled=none
 frames:X.A.frames=some X.stack
 stk:X.stack=X.outer∨(X.stack=X.env::X.outer/\X.env.frame=some X.env.locals)
 exf:∀ b∈X.ex,b≠X.env.locals/\∀ x c,X.env.cells.lookup x=some c->c≠b
 bs:∀ b o,X.base.get? b=some o->X.s₀.heap.get? b=some o/\X.H₀ b=none
 bsz:X.base.objs.size<=X.s₀.heap.objs.size
 noex:∀ b o,X.base.get? b=some o->b∉X.ex
 exfs:∀ b∈X.ex,b∉X.fs
 funs:X.s₀.heap.FunFrames X.base X.outer
 frf:∀ b∈X.fs,X.H₀ b=none
structure Inv (X:Cx) (pins:List (Addr×Obj)) (σ:List (Option V)) (H:Hp) (s:Shared):Prop where
 ok:X.Ok
 os:s.os=X.s₀.os
 bare:AllBare s.gens
 base:Un X.fs X.ex X.H₀ H X.s₀.heap s.heap
 loc:∃ m,s.heap.Ns X.env.locals m/\∀ (i:Nat) (x:Str) (v:V),X.N[i]?=some x->σ[i]?=some (some v)->Vis X.env.scope x->∃ u,bI v u/\aDM X.env s.heap m x u
 cell:∀ x c,X.env.cells.lookup x=some c->∃ v,s.heap.IsCell c v
 free:H X.env.locals=none
 freeC:∀ x c,X.env.cells.lookup x=some c->H c=none
 pin:∀ p∈X.pn++pins,s.heap.get? p.1=some p.2/\H p.1=none/\p.1≠X.env.locals/\p.1∉X.fs/\∀ v,p.2.data≠.cell v
 hok:HOk X.prog X.w H s.heap
 len:σ.length=X.N.length
section
variable {X:Cx} {pins:List (Addr×Obj)} {σ:List (Option V)} {H H':Hp} {s:Shared} {h':Heap}
theorem Cx.Ok.nofr (ok:X.Ok) {b:Addr} {o:Obj} (e:X.base.get? b=some o):b∉X.fs:=fun hb=>by
 have:=(ok.funs.mem hb).1
 rw [e] at this; cases this
theorem Inv.bs (I:Inv X pins σ H s):∀ b o,X.base.get? b=some o->s.heap.get? b=some o/\H b=none:=fun b o e =>
 ⟨I.base.keep b o (I.ok.bs b o e).1 (I.ok.bs b o e).2 (I.ok.nofr e) (I.ok.noex b o e),I.base.free b o (I.ok.bs b o e).1 (I.ok.bs b o e).2 (I.ok.noex b o e)⟩
theorem Inv.bk (I:Inv X pins σ H s):∀ b o,X.base.get? b=some o->s.heap.get? b=some o:=fun b o e=>(I.bs b o e).1
theorem Inv.mod (I:Inv X pins σ H s):Mod X.K X.mg X.base:=I.ok.mod
theorem Inv.kIn (I:Inv X pins σ H s):X.K.In s.heap:=I.ok.mod.kin.keeps I.bk
theorem Inv.nolimit (I:Inv X pins σ H s):s.heap.NoLimit:=I.ok.mod.nolimit.keeps I.bk
theorem Inv.fr (I:Inv X pins σ H s):∃ m,Fr X.base X.env.locals s.heap m :=
 let ⟨m,hn,_⟩:=I.loc
 ⟨m,hn,I.bk,Qt I.ok.bsz I.ok.above⟩
theorem Inv.lt (I:Inv X pins σ H s):X.env.locals < s.heap.objs.size:=let ⟨_,hn,_⟩:=I.loc; hn.lt
theorem Inv.sz (I:Inv X pins σ H s):X.s₀.heap.objs.size<=s.heap.objs.size:=Qt I.ok.above (Zs I.lt)
theorem Inv.nofs (I:Inv X pins σ H s) {a:Addr} (h:s.heap.objs.size<=a):a∉X.fs:=fun hb=>by
 obtain ⟨_,o,ho,_⟩:=I.ok.funs.mem hb
 exact absurd (Qi (Qm ho) (Qt I.sz h)) (Qy _)
theorem Inv.cne (I:Inv X pins σ H s):∀ x c,X.env.cells.lookup x=some c->c≠X.env.locals:=fun x c e z=>by
 obtain ⟨v,o,ho,hd⟩:=I.cell x c e
 obtain ⟨m,⟨o',es,ep,ho',hd',_⟩,_⟩:=I.loc
 rw [z,ho'] at ho; cases ho; rw [hd'] at hd; cases hd
theorem Inv.funs (I:Inv X pins σ H s):s.heap.FunFrames X.base X.outer:=by
 have all:∀ (l:List Env),(∀ b∈frs l,b∈X.fs)->X.s₀.heap.FunFrames X.base l->s.heap.FunFrames X.base l:=by
  intro l
  induction l with
  | nil=>intro _ _; trivial
  | cons env r ih =>
   intro hs hl
   obtain ⟨hk,⟨L,o,hf,hn,ho,hd⟩,hr⟩:=hl
   have hL:L∈X.fs:=hs L (by unfold frs; rw [Xz,hf]; exact Qk)
   obtain ⟨sl,e⟩:=I.base.slot L o ho (I.ok.frf L hL) hL fun z=>I.ok.exfs L z hL
   exact ⟨hk,⟨L,_,hf,hn,e,hd⟩,ih (fun b hb=>hs b (by unfold frs; rw [Xz,hf]; exact Qq _ hb)) hr⟩
 exact all X.outer (fun _ hb=>hb) I.ok.funs
theorem Inv.stack (I:Inv X pins σ H s):s.heap.FunFrames X.base X.stack:=by
 rcases I.ok.stk with e | ⟨e,hf⟩
 ·rw [e]; exact I.funs
 ·rw [e]
  obtain ⟨m,hn,_⟩:=I.loc
  refine .cons (by rw [I.ok.kind]; decide) hf hn ?_ I.funs
  exact Heap.get?_none_of_le (Qt I.ok.bsz I.ok.above)
theorem Inv.stkSub (I:Inv X pins σ H s):∀ b∈frs X.stack,b∈X.env.locals::X.fs:=fun b hb=>by
 rcases I.ok.stk with e | ⟨e,hf⟩
 ·rw [e] at hb; exact Qq _ hb
 ·rw [e] at hb
  unfold frs at hb
  rw [Xz,hf] at hb
  exact hb
theorem Inv.stkFree (I:Inv X pins σ H s):∀ b∈frs X.stack,H b=none:=fun b hb=>by
 rcases Ql.mp (I.stkSub b hb) with e | hb
 ·rw [e]; exact I.free
 ·obtain ⟨_,o,ho,_⟩:=I.ok.funs.mem hb
  exact I.base.free b o ho (I.ok.frf b hb) fun z=>I.ok.exfs b z hb
theorem Inv.step {g':Array GenState} {t':Nat} {d':Drawn} {ch:List Addr} (I:Inv X pins σ H s)
  (hch:∀ b∈ch,(b∈X.ex∨X.s₀.heap.objs.size<=b)/\b≠X.env.locals/\(∀ x c,X.env.cells.lookup x=some c->c≠b)/\∀ p∈X.pn++pins,p.1≠b)
  (keep:∀ b o,b≠X.env.locals->b∉X.fs->b∉ch->s.heap.get? b=some o->H b=none->h'.get? b=some o)
  (slot:∀ b o,b≠X.env.locals->b∈X.fs->b∉ch->s.heap.get? b=some o->H b=none->∃ sl,h'.get? b=some { o with slots:=sl }) (free:∀ b o,b∉ch->s.heap.get? b=some o->H b=none->H' b=none)
  (there:∀ b o,b∉ch->s.heap.get? b=some o->∃ o',h'.get? b=some o')
  (tups:∀ b xs,H b=some (.tup xs)->H' b=some (.tup xs)) (frzs:∀ b o u,H b=some (.frz o u)->H' b=some (.frz o u)) (tbls:∀ b ps,H b=some (.tbl ps)->∃ more,H' b=some (.tbl (ps++more)))
  (ns:∀ m,s.heap.Ns X.env.locals m->h'.Ns X.env.locals m) (hok:HOk X.prog X.w H' h') (hg:AllBare g') :
  Inv X pins σ H' { s with heap:=h',gens:=g',drawn:=d',toks:=t' }:=by
 have neL:∀ b o,X.s₀.heap.get? b=some o->b≠X.env.locals:=fun b o e=>Jr (Qi (Qm e) I.ok.above)
 have neC:∀ b o,X.s₀.heap.get? b=some o->b∉X.ex->b∉ch:=fun b o e hx hb=>by
  rcases (hch b hb).1 with z | z
  ·exact hx z
  ·exact absurd (Qi (Qm e) z) (Qy _)
 have cellK:∀ x c,X.env.cells.lookup x=some c->∀ v,s.heap.IsCell c v->h'.IsCell c v:=fun x c e v ⟨o,ho,hd⟩=>by
  have nch:c∉ch:=fun z=>(hch c z).2.2.1 x c e rfl
  by_cases hc:c∈X.fs
  ·obtain ⟨sl,q⟩:=slot c o (I.cne x c e) hc nch ho (I.freeC x c e)
   exact ⟨_,q,hd⟩
  ·exact ⟨o,keep c o (I.cne x c e) hc nch ho (I.freeC x c e),hd⟩
 refine ⟨I.ok,I.os,hg,⟨fun b o e n hb hx=>?_,fun b o e n hb hx=>?_,fun b o e n hx=>?_,fun b o e hx=>?_,fun b xs e=>tups b xs (I.base.tups b xs e),fun b o xs e=>frzs b o xs (I.base.frzs b o xs e),fun b ps e=>?_⟩,?_,fun x c e=>?_,?_,fun x c e=>?_,fun p hp=>?_,hok,I.len⟩
 ·exact keep b o (neL b o e) hb (neC b o e hx) (I.base.keep b o e n hb hx) (I.base.free b o e n hx)
 ·obtain ⟨sl,e1⟩:=I.base.slot b o e n hb hx
  obtain ⟨sl',e2⟩:=slot b _ (neL b o e) hb (neC b o e hx) e1 (I.base.free b o e n hx)
  exact ⟨sl',e2⟩
 ·obtain ⟨o',e1⟩:=I.base.there b o e hx
  exact free b o' (neC b o e hx) e1 (I.base.free b o e n hx)
 ·obtain ⟨o',e1⟩:=I.base.there b o e hx
  exact there b o' (neC b o e hx) e1
 ·obtain ⟨m1,e1⟩:=I.base.tbls b ps e
  obtain ⟨m2,e2⟩:=tbls b _ e1
  exact ⟨m1++m2,by rw [e2,Array.append_assoc]⟩
 ·obtain ⟨m,hn,hl⟩:=I.loc
  refine ⟨m,ns m hn,fun i x v e1 e2 e3=>?_⟩
  obtain ⟨u,r,l⟩:=hl i x v e1 e2 e3
  refine ⟨u,r,?_⟩
  rcases l with l | ⟨k,c,e,z⟩
  ·exact .inl l
  ·exact .inr ⟨k,c,e,cellK x c e _ z⟩
 ·obtain ⟨v,z⟩:=I.cell x c e
  exact ⟨v,cellK x c e v z⟩
 ·obtain ⟨m,⟨o,_,_,ho,_⟩,_⟩:=I.loc
  exact free _ o (fun z=>(hch _ z).2.1 rfl) ho I.free
 ·obtain ⟨v,o,ho,hd⟩:=I.cell x c e
  exact free c o (fun z=>(hch c z).2.2.1 x c e rfl) ho (I.freeC x c e)
 ·obtain ⟨e,n,ne,nf,d⟩:=I.pin p hp
  have nch:p.1∉ch:=fun z=>(hch p.1 z).2.2.2 p hp rfl
  exact ⟨keep p.1 p.2 ne nf nch e n,free p.1 p.2 nch e n,ne,nf,d⟩
theorem Inv.un {t':Nat} (I:Inv X pins σ H s) (u:Un X.fs [] H H' s.heap h') (hok:HOk X.prog X.w H' h'):Inv X pins σ H' { s with heap:=h',toks:=t' }:=by
 obtain ⟨m,⟨o,es,ep,ho,r⟩,_⟩:=id I.loc
 obtain ⟨sl,hL⟩:=u.any ho I.free (by simp)
 exact I.step (g':=s.gens) (d':=s.drawn) (ch:=[]) (fun _ z=>nomatch z) (fun b o _ hb _ e n=>u.keep b o e n hb (by simp)) (fun b o _ hb _ e n=>u.slot b o e n hb (by simp)) (fun b o _ e n=>u.free b o e n (by simp)) (fun b o _ e=>u.there b o e (by simp)) u.tups u.frzs u.tbls (fun m' hm=>by
  obtain ⟨o',es',ep',ho',r'⟩:=hm
  rw [ho] at ho'; cases ho'
  exact ⟨_,es',ep',hL,r'⟩) hok I.bare
theorem Inv.call {g':Array GenState} {t':Nat} {d':Drawn} {ch:List Addr} (I:Inv X pins σ H s) (u:Un (frs X.stack) ch H H' s.heap h') (hok:HOk X.prog X.w H' h') (hg:AllBare g')
  (hch:∀ b∈ch,(b∈X.ex∨X.s₀.heap.objs.size<=b)/\b≠X.env.locals/\(∀ x c,X.env.cells.lookup x=some c->c≠b)/\∀ p∈X.pn++pins,p.1≠b) :
  Inv X pins σ H' { s with heap:=h',gens:=g',drawn:=d',toks:=t' }:=by
 obtain ⟨m,⟨o,es,ep,ho,r⟩,_⟩:=id I.loc
 obtain ⟨sl,hL⟩:=u.any ho I.free fun z=>(hch _ z).2.1 rfl
 exact I.step (ch:=ch) hch (fun b o hL hb hc e n=>u.keep b o e n (fun z=>(Ql.mp (I.stkSub b z)).elim hL hb) hc) (fun b o _ _ hc e n=>u.any e n hc) (fun b o hc e n=>u.free b o e n hc) (fun b o hc e=>u.there b o e hc) u.tups u.frzs u.tbls (fun m' hm=>by
  obtain ⟨o',es',ep',ho',r'⟩:=hm
  rw [ho] at ho'; cases ho'
  exact ⟨_,es',ep',hL,r'⟩) hok hg
theorem Inv.turned {t':Nat} {it:Addr} (I:Inv X pins σ H s) (k:∀ b o,b≠it->s.heap.get? b=some o->h'.get? b=some o) (hn:H it=none) (hL:it≠X.env.locals)
  (h1:it∈X.ex∨X.s₀.heap.objs.size<=it) (h2:∀ x c,X.env.cells.lookup x=some c->c≠it) (h3:∀ p∈X.pn++pins,p.1≠it):Inv X pins σ H { s with heap:=h',toks:=t' }:=by
 have nit:∀ b u,H b=some u->b≠it:=fun b u e z=>by rw [z,hn] at e; cases e
 refine I.step (g':=s.gens) (d':=s.drawn) (ch:=[it]) (fun b hb=>?_) (fun b o _ _ hc e _=>k b o (fun z=>hc (by simp [z])) e) (fun b o _ _ hc e _=>⟨o.slots,k b o (fun z=>hc (by simp [z])) e⟩) (fun _ _ _ _ n=>n)
  (fun b o hc e=>⟨o,k b o (fun z=>hc (by simp [z])) e⟩) (fun _ _ e=>e) (fun _ _ _ e=>e) (fun b ps e=>⟨#[],by rw [e]; simp⟩) (fun m hm=>?_) (fun b u e=>?_) I.bare
 ·have e:b=it:=by simpa using hb
  subst e
  exact ⟨h1,hL,h2,h3⟩
 ·obtain ⟨o,es,ep,ho,r⟩:=hm
  exact ⟨o,es,ep,k _ o (Ne.symm hL) ho,r⟩
 ·refine (I.hok b u e).stay (fun c v hc q=>k c v ?_ q) (fun _ q=>q) fun _ _ q=>q
  rcases hc with z | z
  ·rw [z]; exact nit b u e
  ·exact nit c _ z
theorem Inv.tok (I:Inv X pins σ H s) (t:Nat):Inv X pins σ H { s with toks:=t }:=I.un (h':=s.heap) (t':=t) Un.refl I.hok
theorem Inv.kept {t':Nat} (I:Inv X pins σ H s) (k:∀ b u,s.heap.get? b=some u->h'.get? b=some u):Inv X pins σ H { s with heap:=h',toks:=t' }:=I.un (Un.kept k) (I.hok.kept k)
theorem Inv.laid {a:Addr} {o:HO} {t':Nat} (I:Inv X pins σ H s) (k:∀ b u,s.heap.get? b=some u->h'.get? b=some u) (hp:s.heap.objs.size<=a) (new:cJ X.prog X.w (upd H a o) h' a o) :
  Inv X pins σ (upd H a o) { s with heap:=h',toks:=t' }:=I.un (Un.laid k hp (I.hok.fresh hp)) (I.hok.laid k hp new)
theorem Inv.write {x e:Addr} {o:HO} {t':Nat} (I:Inv X pins σ H s) (mu:Mut (H x)) (he:e=x∨H e=some (.own x)) (k:∀ b u,b≠e->s.heap.get? b=some u->h'.get? b=some u) (heo:∃ u,h'.get? e=some u)
  (new:cJ X.prog X.w (upd H x o) h' x o):Inv X pins σ (upd H x o) { s with heap:=h',toks:=t' }:=I.un (Un.write mu he k heo) (I.hok.write mu he k heo new)
theorem Inv.pins_of {pins':List (Addr×Obj)} (I:Inv X pins σ H s) (h:∀ p∈pins',s.heap.get? p.1=some p.2/\H p.1=none/\p.1≠X.env.locals/\p.1∉X.fs/\∀ v,p.2.data≠.cell v):Inv X pins' σ H s :=
 ⟨I.ok,I.os,I.bare,I.base,I.loc,I.cell,I.free,I.freeC,fun p hp=>(Jm.mp hp).elim (fun z=>I.pin p (Jq _ z)) (h p),I.hok,I.len⟩
theorem uZ {N:List Str} (hN:N.Nodup) {i j:Nat} {x:Str} (a:N[i]?=some x) (b:N[j]?=some x):i=j:=by
 obtain ⟨h1,e1⟩:=Qd.mp a
 obtain ⟨h2,e2⟩:=Qd.mp b
 exact (List.getElem_inj hN).mp (e1.trans e2.symm)
theorem nN {M:Model} {A:Around} {E:Value->Shared->Prop} {i:Nat} {x:Str} {v:V} {u:Value} {Q:Unit->Shared->Prop} (I:Inv X pins σ H s) (hN:X.N.Nodup) (hi:X.N[i]?=some x) (hx:Loc X.env.scope x) (r:bI v u)
  (h:∀ s',Inv X pins (σ.set i (some v)) H s'->(∃ a,Heap.SameBut a s.heap s'.heap/\(a=X.env.locals∨X.env.cells.lookup x=some a))->Q () s') (hf:X.fn x=true∨X.env.scope.names.lookup x=some .local:=by first | exact .inl rfl | exact .inr rfl | assumption):wpAny M A (storeName X.env x u) Q E s:=by
 obtain ⟨m,hn,hl⟩:=id I.loc
 have hcls:(X.env.scope.kind==.class || (X.env.scope.kind==.module && X.env.locals !=X.env.globals))=false:=by rw [I.ok.kind]; rfl
 have hiσ:i < σ.length:=by rw [I.len]; exact (Qd.mp hi).1
 have cne:=I.cne
 have tracked:∀ {a:Addr} {h':Heap},(∃ o,s.heap.get? a=some o/\H a=none)->Heap.SameBut a s.heap h'->HOk X.prog X.w H h':=fun {a h'} ha hs b ob e=>by
  obtain ⟨_,_,hfree⟩:=ha
  refine (I.hok b ob e).stay (fun c w' hc q=>(hs.2 c ?_).trans q) (fun _ q=>q) fun _ _ q=>q
  rintro rfl
  rcases hc with rfl | hc
  ·rw [hfree] at e; cases e
  ·rw [hfree] at hc; cases hc
 rcases hx with hk | hk
 ·refine wpAny_storeName_local hk hn (fun h' hn' hs=>?_) hcls
  obtain ⟨oL,_,_,hoL,_⟩:=id hn
  refine h _ ⟨I.ok,I.os,I.bare,⟨fun b o e n hb hx=>?_,fun b o e n hb hx=>?_,I.base.free,fun b o e hx=>?_,I.base.tups,I.base.frzs,I.base.tbls⟩,⟨_,hn',fun j y v' e1 e2 e3=>?_⟩,fun y c e=>?_,I.free,I.freeC,fun p hp=>?_,tracked ⟨oL,hoL,I.free⟩ hs,by simpa using I.len⟩ ⟨_,hs,.inl rfl⟩
  ·exact (hs.2 b (Jr (Qi (Qm e) I.ok.above))).trans (I.base.keep b o e n hb hx)
  ·obtain ⟨sl,e1⟩:=I.base.slot b o e n hb hx
   exact ⟨sl,(hs.2 b (Jr (Qi (Qm e) I.ok.above))).trans e1⟩
  ·obtain ⟨o',e1⟩:=I.base.there b o e hx
   exact ⟨o',(hs.2 b (Jr (Qi (Qm e) I.ok.above))).trans e1⟩
  ·by_cases hj:j=i
   ·subst hj
    rw [hi] at e1; cases e1
    rw [Wd hiσ] at e2
    cases e2
    exact ⟨u,r,.inl ⟨hk,by simp⟩⟩
   ·rw [Wl (Ne.symm hj)] at e2
    obtain ⟨u',r',q⟩:=hl j y v' e1 e2 e3
    refine ⟨u',r',?_⟩
    rcases q with ⟨k,e⟩ | ⟨k,c,e,z⟩
    ·refine .inl ⟨k,?_⟩
     have:y≠x:=fun e=>hj (uZ hN e1 (e ▸ hi))
     simp [this,e]
    ·exact .inr ⟨k,c,e,z.sameBut hs (cne y c e)⟩
  ·obtain ⟨w',z⟩:=I.cell y c e
   exact ⟨w',z.sameBut hs (cne y c e)⟩
  ·obtain ⟨e,n,ne,nf,d⟩:=I.pin p hp
   exact ⟨(hs.2 p.1 ne).trans e,n,ne,nf,d⟩
 ·have hfn:X.fn x=true:=by
   rcases hf with z | z
   ·exact z
   ·rw [z] at hk; cases hk
  obtain ⟨c,hc⟩:=I.ok.has x (.inl hk)
  obtain ⟨w',z⟩:=I.cell x c hc
  refine wpAny_storeName_cell I.ok.kind hk hc z (fun h' hc' hs=>?_)
  obtain ⟨oc,hoc,hocd⟩:=id z
  refine h { s with heap:=h' } ⟨I.ok,I.os,I.bare,⟨fun b o e n hb hx=>?_,fun b o e n hb hx=>?_,I.base.free,fun b o e hx=>?_,I.base.tups,I.base.frzs,I.base.tbls⟩,⟨m,hn.sameBut hs (Ne.symm (cne x c hc)),fun j y v' e1 e2 e3=>?_⟩,fun y c' e=>?_,I.free,I.freeC,fun p hp=>?_,tracked ⟨oc,hoc,I.freeC x c hc⟩ hs,by simpa using I.len⟩ ⟨c,hs,.inr hc⟩
  ·exact (hs.2 b (Jr (Qi (Qm e) (I.ok.cab x c hfn hc)))).trans (I.base.keep b o e n hb hx)
  ·obtain ⟨sl,e1⟩:=I.base.slot b o e n hb hx
   exact ⟨sl,(hs.2 b (Jr (Qi (Qm e) (I.ok.cab x c hfn hc)))).trans e1⟩
  ·obtain ⟨o',e1⟩:=I.base.there b o e hx
   exact ⟨o',(hs.2 b (Jr (Qi (Qm e) (I.ok.cab x c hfn hc)))).trans e1⟩
  ·by_cases hj:j=i
   ·subst hj
    rw [hi] at e1; cases e1
    rw [Wd hiσ] at e2
    cases e2
    exact ⟨u,r,.inr ⟨.inl hk,c,hc,hc'⟩⟩
   ·rw [Wl (Ne.symm hj)] at e2
    obtain ⟨u',r',q⟩:=hl j y v' e1 e2 e3
    refine ⟨u',r',?_⟩
    rcases q with q | ⟨k,c',e,z'⟩
    ·exact .inl q
    ·refine .inr ⟨k,c',e,z'.sameBut hs ?_⟩
     rintro rfl
     exact hj (uZ hN e1 (I.ok.inj _ _ _ e hc ▸ hi))
  ·by_cases hcc:c'=c
   ·subst hcc; exact ⟨_,hc'⟩
   ·obtain ⟨w2,z2⟩:=I.cell y c' e
    exact ⟨w2,z2.sameBut hs hcc⟩
  ·obtain ⟨e,n,ne,nf,d⟩:=I.pin p hp
   refine ⟨(hs.2 p.1 ?_).trans e,n,ne,nf,d⟩
   intro q
   rw [q,hoc] at e
   have q':oc=p.2:=Option.some.inj e
   exact d w' (by rw [<- q']; exact hocd)
theorem mJ {M:Model} {A:Around} {E:Value->Shared->Prop} {i:Nat} {x:Str} {v:V} {u:Value} {Q:Unit->Shared->Prop} (I:Inv X pins σ H s) (hN:X.N.Nodup) (hi:X.N[i]?=some x) (hx:Loc X.env.scope x) (r:bI v u)
  (h:∀ s',Inv X pins (σ.set i (some v)) H s'->Q () s') (hf:X.fn x=true∨X.env.scope.names.lookup x=some .local:=by first | exact .inl rfl | exact .inr rfl | assumption):wpAny M A (storeName X.env x u) Q E s :=
 nN I hN hi hx r (fun s' I' _=>h s' I') hf
theorem Inv.call' {s':Shared} {ch:List Addr} (I:Inv X pins σ H s) (ho:s'.os=s.os) (u:Un (frs X.stack) ch H H' s.heap s'.heap) (hok:HOk X.prog X.w H' s'.heap) (hg:AllBare s'.gens)
  (hch:∀ b∈ch,(b∈X.ex∨X.s₀.heap.objs.size<=b)/\b≠X.env.locals/\(∀ x c,X.env.cells.lookup x=some c->c≠b)/\∀ p∈X.pn++pins,p.1≠b):Inv X pins σ H' s':=by
 obtain ⟨h',g',d',t',o'⟩:=s'
 have e:o'=s.os:=ho
 subst e
 exact I.call (g':=g') (t':=t') (d':=d') u hok hg hch
end
abbrev XK:=Value->Option Addr->Hp->Prop
abbrev St:=List (Option V)
abbrev VK:=V->Hp->Prop
abbrev TE:=St->Hp->VK->Prop
abbrev TT:=St->Hp->(Bool->Hp->Prop)->Prop
abbrev TA:=St->Hp->(List V->Hp->Prop)->Prop
structure Ends where
 nx:St->Hp->Prop
 rt:VK
 bk:St->Hp->Prop:=fun _ _=>False
 ct:St->Hp->Prop:=fun _ _=>False
abbrev TS:=Ends->St->Hp->Prop
def EP (X:Cx) (pins:List (Addr×Obj)) (σ:St) (Q:VK) (u:Value) (s':Shared):Prop:=∃ v H',Inv X pins σ H' s'/\bI v u/\Q v H'
def TP (X:Cx) (pins:List (Addr×Obj)) (σ:St) (Q:Bool->Hp->Prop) (b:Bool) (s':Shared):Prop:=∃ H',Inv X pins σ H' s'/\Q b H'
def AP (X:Cx) (pins:List (Addr×Obj)) (σ:St) (Q:List V->Hp->Prop) (us:List Value) (s':Shared):Prop:=∃ vs H',Inv X pins σ H' s'/\bF vs us/\Q vs H'
def SP (X:Cx) (pins:List (Addr×Obj)) (D:Ends) (f:Flow) (s':Shared):Prop :=
 match f with
 | .next=>∃ σ' H',Inv X pins σ' H' s'/\D.nx σ' H'
 | .brk=>∃ σ' H',Inv X pins σ' H' s'/\D.bk σ' H'
 | .cont=>∃ σ' H',Inv X pins σ' H' s'/\D.ct σ' H'
 | .ret u=>∃ v σ' H',Inv X pins σ' H' s'/\bI v u/\D.rt v H'
def PE (X:Cx) (e:Expr) (t:TE):Prop :=
 ∀ (pins:List (Addr×Obj)) (s:Shared) (σ:St) (H:Hp) (Q:VK),Inv X pins σ H s->t σ H Q->wpAny (model X.prog X.w) X.A (eval e X.env) (EP X pins σ Q) X.xe s
def PT (X:Cx) (e:Expr) (t:TT):Prop :=
 ∀ (pins:List (Addr×Obj)) (s:Shared) (σ:St) (H:Hp) (Q:Bool->Hp->Prop),Inv X pins σ H s->t σ H Q->wpAny (model X.prog X.w) X.A (isTrue e X.env (eval e X.env)) (TP X pins σ Q) X.xe s
def PW (X:Cx) (e:Expr) (t:TT):Prop :=
 ∀ (whole:Sem Value) (pins:List (Addr×Obj)) (s:Shared) (σ:St) (H:Hp) (Q:Bool->Hp->Prop),Inv X pins σ H s->t σ H Q->wpAny (model X.prog X.w) X.A (isTrue e X.env whole) (TP X pins σ Q) X.xe s
theorem PW.pt {X:Cx} {e:Expr} {t:TT} (h:PW X e t):PT X e t:=h _
def PA (X:Cx) (es:List Expr) (t:TA):Prop :=
 ∀ (pos:Pos) (pins:List (Addr×Obj)) (s:Shared) (σ:St) (H:Hp) (Q:List V->Hp->Prop),Inv X pins σ H s->t σ H Q->wpAny (model X.prog X.w) X.A (spliced (backTo pos (starEach es X.env))) (AP X pins σ Q) X.xe s
def PS (X:Cx) (st:Stmt) (t:TS):Prop :=
 ∀ (pins:List (Addr×Obj)) (s:Shared) (σ:St) (H:Hp) (D:Ends),Inv X pins σ H s->t D σ H->wpAny (model X.prog X.w) X.A (exec st X.env) (SP X pins D) X.xe s
def PSs (X:Cx) (st:List Stmt) (t:TS):Prop :=
 ∀ (pins:List (Addr×Obj)) (s:Shared) (σ:St) (H:Hp) (D:Ends),Inv X pins σ H s->t D σ H->wpAny (model X.prog X.w) X.A (execs st X.env) (SP X pins D) X.xe s
theorem thn {α:Type} {t:Sem α} {Q Q':α->Shared->Prop} {M:Model} {A:Around} {E:Value->Shared->Prop} {s:Shared} (h:wpAny M A t Q E s) (hQ:∀ a s,Q a s->Q' a s):wpAny M A t Q' E s:=wpAny_mono h hQ fun _ _ x=>x
section
variable {X:Cx}
def aEr (i:Nat):TE:=fun σ H Q=>∃ v,σ[i]?=some (some v)/\Q v H
abbrev tC (v:V):TE:=fun _ H Q=>Q v H
theorem aDN {i:Nat} {x:Str} {pos:Pos} (hN:X.N[i]?=some x) (hv:Vis X.env.scope x) (hd:(x==("__debug__" : Str))=false:=by decide) (hcd:(x==("__classdict__" : Str))=false:=by decide):PE X (.Name x pos) (aEr i):=by
 intro pins s σ H Q I h
 obtain ⟨v,e,h⟩:=h
 obtain ⟨m,hn,hl⟩:=I.loc
 obtain ⟨u,r,l⟩:=hl i x v hN e hv
 have fin:EP X pins σ Q u s:=⟨v,H,I,r,h⟩
 rcases l with ⟨hk,hm⟩ | ⟨hk,c,hc,hcell⟩
 ·exact wpAny_Name (wpAny_loadName_local I.ok.kind hk hn hm fin) hd
 ·rcases hk with hk | hk
  ·exact wpAny_Name (wpAny_loadName_cell I.ok.kind hk hc hcell fin) hd
  ·exact wpAny_Name (wpAny_loadName_free I.ok.kind hk hc hcell fin hcd) hd
theorem aH {i j pos}:PE X (.Constant (.int i) j pos) (tC (.int i)):=fun _ _ _ H _ I h=>wpAny_Constant_int ⟨.int i,H,I.tok _,⟨_,rfl⟩,h⟩
theorem eX {b j pos}:PE X (.Constant (.bool b) j pos) (tC (.bl b)):=fun _ _ _ H _ I h=>Constant_bool ⟨.bl b,H,I,rfl,h⟩
theorem aDO {j pos}:PE X (.Constant .none j pos) (tC .non):=fun _ _ _ H _ I h=>Constant_none ⟨.non,H,I,rfl,h⟩
def Gl (X:Cx) (x:Str):Prop:=X.env.kindOf x=some .globalImplicit
theorem yG {E:Value->Shared->Prop} {pins:List (Addr×Obj)} {s:Shared} {σ:St} {H:Hp} {x:Str} {u:Value} {pos:Pos} {Q:Value->Shared->Prop} (I:Inv X pins σ H s) (hg:Gl X x) (hm:X.mg x=some u) (h:Q u s)
  (hd:(x==("__debug__" : Str))=false:=by decide):wpAny (model X.prog X.w) X.A (eval (.Name x pos) X.env) Q E s :=
 Calls.Name_function_global I.ok.kind hg (Calls.loadGlobal_global (by rw [I.ok.glob]; exact I.mod.glob.keeps I.bk) hm h) hd
theorem kB {E:Value->Shared->Prop} {pins:List (Addr×Obj)} {s:Shared} {σ:St} {H:Hp} {x:Str} {u:Value} {pos:Pos} {Q:Value->Shared->Prop} (I:Inv X pins σ H s) (hg:Gl X x) (hm:X.mg x=none) (hv:bootBuiltins x=some u) (h:Q u s)
  (hn:x ≠ "__name__" := by decide) (hd:(x==("__debug__" : Str))=false:=by decide):wpAny (model X.prog X.w) X.A (eval (.Name x pos) X.env) Q E s:=by
 obtain ⟨mb,h1,h2⟩:=I.mod.blt
 exact Calls.Name_function_global I.ok.kind hg (Calls.loadGlobal_builtin (by rw [I.ok.glob]; exact I.mod.glob.keeps I.bk) hm (by rw [I.ok.blt]; exact h1.keeps I.bk) ((h2 x hn).trans hv) h) hd
theorem lH {x:Str} {v:V} {u:Value} {pos:Pos} (hg:Gl X x) (hm:X.mg x=some u) (r:bI v u) (hd:(x==("__debug__" : Str))=false:=by decide):PE X (.Name x pos) (tC v) :=
 fun _ _ _ H _ I h=>yG I hg hm ⟨v,H,I,r,h⟩ hd
theorem gJ {x:Str} {v:V} {u:Value} {pos:Pos} (hg:Gl X x) (hm:X.mg x=none) (hv:bootBuiltins x=some u) (r:bI v u) (hn:x ≠ "__name__" := by decide) (hd:(x==("__debug__" : Str))=false:=by decide):PE X (.Name x pos) (tC v) :=
 fun _ _ _ H _ I h=>kB I hg hm hv ⟨v,H,I,r,h⟩ hn hd
variable {a b:Expr} {ta tb:TE} {pos:Pos}
def PC (X:Cx) (op:CmpOp) (a b:Expr) (t:TE):Prop :=
 ∀ (pins:List (Addr×Obj)) (s:Shared) (σ:St) (H:Hp) (Q:VK),Inv X pins σ H s->t σ H Q ->
  wpAny (model X.prog X.w) X.A (eval a X.env) (fun v s₁=>wpAny (model X.prog X.w) X.A (eval b X.env) (fun u s₂=>wpAny (model X.prog X.w) X.A (compareOp op v u) (EP X pins σ Q) X.xe s₂) X.xe s₁) X.xe s
theorem aAW (b:Expr) {op:CmpOp} (h:op≠.In) (h2:op≠.NotIn):behindInMarks op b=false:=by
 have e1:(op==CmpOp.In)=false:=by cases op <;> first | rfl | exact absurd rfl h
 have e2:(op==CmpOp.NotIn)=false:=by cases op <;> first | rfl | exact absurd rfl h2
 cases b <;> simp [behindInMarks,e1,e2]
def aEs (ta:TE):TE:=fun σ H Q=>ta σ H fun x H1=>Q (.bl (!decide (x=.non))) H1
theorem bI.none_iff {x:V} {v:Value} (r:bI x v):(v==Value.none)=decide (x=.non):=by
 cases x with
 | non=>cases r; rfl
 | bl _=>cases r; rfl
 | int _=>obtain ⟨t,rfl⟩:=r; rfl
 | str _=>obtain ⟨t,rfl⟩:=r; rfl
 | byt _=>obtain ⟨t,rfl⟩:=r; rfl
 | flt _=>obtain ⟨t,rfl⟩:=r; rfl
 | ref _=>cases r; rfl
 | ty _=>cases r; rfl
theorem aCo {j pos'} (ha:PE X a ta):PC X .IsNot a (.Constant .none j pos') (aEs ta):=by
 intro pins s σ H Q I h
 refine thn (ha pins s σ H _ I h) fun v s1 hx9=>?_
 obtain ⟨x,H1,I1,r1,q1⟩:=hx9
 exact Constant_none (isnot_none_gen ⟨.bl _,H1,I1,by rw [r1.none_iff]; rfl,q1⟩)
def tB (t:TE):TT:=fun σ H Q=>t σ H fun x H1=>∃ c,x=.bl c/\Q c H1
theorem aAX {op:CmpOp} {t:TE} (h:PC X op a b t) (h1:behindInMarks op b=false:=by first | exact aAW _ (by decide) (by decide) | rfl):PT X (.Compare a [op] [b] pos) (tB t):=by
 intro pins s σ H Q I hw
 refine wpAny_isTrue_Compare1 (thn (h pins s σ H _ I hw) fun v s1 h1=>thn h1 fun u s2 h2=>thn h2 fun c s3 hx9=>?_) h1
 obtain ⟨x,H1,I1,r1,q1⟩:=hx9
 obtain ⟨d,rfl,q⟩:=q1
 cases r1
 exact wpAny_truthy_bool ⟨H1,I1,q⟩
theorem eD {e:Expr} {t:TE} (h:PE X e t) (he:∀ whole,isTrue e X.env whole=(do let v<-whole; standAt e.pos; holding [v] (truthy v)):=by intro _; rfl):PT X e (tB t):=by
 intro pins s σ H Q I hw
 refine isTrue_plain (thn (h pins s σ H _ I hw) fun v s1 hx9=>?_) (he _)
 obtain ⟨x,H1,I1,r1,q1⟩:=hx9
 obtain ⟨d,rfl,q⟩:=q1
 cases r1
 exact wpAny_truthy_bool ⟨H1,I1,q⟩
variable {tA tB':TT} {iK:List Expr}
def aEt (t u:TT):TT:=fun σ H Q=>t σ H fun c H1=>if c=true then u σ H1 Q else Q false H1
def tOr (t u:TT):TT:=fun σ H Q=>t σ H fun c H1=>if c=true then Q true H1 else u σ H1 Q
def aFj (t:TT):TT:=fun σ H Q=>t σ H fun c H1=>Q (!c) H1
theorem tI (ha:PT X a tA):PW X (.BoolOp .And [a] pos) tA:=by
 intro wh pins s σ H Q I h
 refine isTrue_and (thn (ha pins s σ H Q I h) fun c s1 e=>?_)
 cases c with
 | true=>exact isTrue_and_nil e
 | false=>exact e
theorem iR (ha:PT X a tA):PW X (.BoolOp .Or [a] pos) tA:=by
 intro wh pins s σ H Q I h
 refine isTrue_or (thn (ha pins s σ H Q I h) fun c s1 e=>?_)
 cases c with
 | false=>exact isTrue_or_nil e
 | true=>exact e
theorem xG (ha:PT X a tA) (hb:PW X (.BoolOp .And (b::iK) pos) tB'):PW X (.BoolOp .And (a::b::iK) pos) (aEt tA tB'):=by
 intro wh pins s σ H Q I h
 refine isTrue_and (thn (ha pins s σ H _ I h) fun c s1 hx9=>?_)
 obtain ⟨H1,I1,q1⟩:=hx9
 cases c with
 | true=>exact hb wh pins s1 σ H1 Q I1 q1
 | false=>exact ⟨H1,I1,q1⟩
theorem iJ (ha:PT X a tA) (hb:PW X (.BoolOp .Or (b::iK) pos) tB'):PW X (.BoolOp .Or (a::b::iK) pos) (tOr tA tB'):=by
 intro wh pins s σ H Q I h
 refine isTrue_or (thn (ha pins s σ H _ I h) fun c s1 hx9=>?_)
 obtain ⟨H1,I1,q1⟩:=hx9
 cases c with
 | true=>exact ⟨H1,I1,q1⟩
 | false=>exact hb wh pins s1 σ H1 Q I1 q1
theorem eZ (ha:PT X a tA):PT X (.UnaryOp .Not a pos) (aFj tA):=by
 intro pins s σ H Q I h
 exact isTrue_not (ha pins s σ H (fun c H1=>Q (!c) H1) I h)
def aEu (ta tb:TE):TE:=fun σ H Q=>ta σ H fun x H1=>∃ c,x=.bl c/\if c=true then tb σ H1 Q else Q (.bl false) H1
def aEv (ta:TE):TE:=fun σ H Q=>ta σ H fun x H1=>∃ c,x=.bl c/\Q (.bl (!c)) H1
theorem nO {op} {t:TE} (h:PE X a t):PE X (.BoolOp op [a] pos) t:=fun pins s σ H Q I hw=>BoolOp_one (h pins s σ H Q I hw)
theorem nP (ha:PE X a ta) (hb:PE X (.BoolOp .And (b::iK) pos) tb):PE X (.BoolOp .And (a::b::iK) pos) (aEu ta tb):=by
 intro pins s σ H Q I h
 refine BoolOp_and (thn (ha pins s σ H _ I h) fun v s1 hx9=>?_)
 obtain ⟨x,H1,I1,r1,q1⟩:=hx9
 obtain ⟨c,rfl,q1⟩:=q1
 cases r1
 refine wpAny_truthy_bool ?_
 cases c with
 | true=>exact hb pins s1 σ H1 Q I1 q1
 | false=>exact ⟨.bl false,H1,I1,rfl,q1⟩
theorem aAY (ha:PE X a ta):PE X (.UnaryOp .Not a pos) (aEv ta):=by
 intro pins s σ H Q I h
 refine UnaryOp_ (thn (ha pins s σ H _ I h) fun v s1 hx9=>?_)
 obtain ⟨x,H1,I1,r1,q1⟩:=hx9
 obtain ⟨c,rfl,q1⟩:=q1
 cases r1
 exact not_of (wpAny_truthy_bool ⟨.bl (!c),H1,I1,rfl,q1⟩)
end
def SqL (K:PySem.W.Frag) (H:Hp) (a:Addr) (xs:List V):Prop :=
 Rd H a (.lst xs) ∨
  ∃ (o:Obj) (its:Array Value) (n:Nat),K.lookup a=some o/\o.cls=.type "list" /\ o.dict=none/\o.data=.seq its n/\its.size<=sizeLine/\bF xs its.toList
def SqT (K:PySem.W.Frag) (H:Hp) (a:Addr) (xs:List V):Prop :=
 Rd H a (.tup xs) ∨
  ∃ (o:Obj) (its:Array Value) (n:Nat),K.lookup a=some o/\o.cls=.type "tuple" /\ o.dict=none/\o.data=.seq its n/\its.size<=sizeLine/\bF xs its.toList
def aFk:Value->Option V
 | .none=>some .non
 | .bool b=>some (.bl b)
 | .int i _=>some (.int i)
 | .str x _=>some (.str x)
 | .bytes b _=>some (.byt b)
 | .float b _=>some (.flt b)
 | .ref a=>some (.ref a)
 | .type n=>some (.ty n)
 | _=>none
theorem bI.abs {x:V} {u:Value} (r:bI x u):aFk u=some x:=by
 cases x with
 | non=>cases r; rfl
 | bl _=>cases r; rfl
 | int _=>obtain ⟨t,rfl⟩:=r; rfl
 | str _=>obtain ⟨t,rfl⟩:=r; rfl
 | byt _=>obtain ⟨t,rfl⟩:=r; rfl
 | flt _=>obtain ⟨t,rfl⟩:=r; rfl
 | ref _=>cases r; rfl
 | ty _=>cases r; rfl
theorem bI.inj {x y:V} {u:Value} (r:bI x u) (q:bI y u):x=y:=Option.some.inj (r.abs.symm.trans q.abs)
theorem bF.inj:∀ {xs ys:List V} {us:List Value},bF xs us->bF ys us->xs=ys
 := by
 intro xs ys us h
 induction h generalizing ys with
 | nil=>intro q; cases q; rfl
 | cons r t ih=>intro q; cases q with | cons r' t'=>rw [r.inj r',ih t']
section
variable {X:Cx} {pins:List (Addr×Obj)} {σ:St} {H:Hp} {s:Shared} {a:Addr} {xs ys:List V}
theorem SqL.of {K:PySem.W.Frag} (h:H a=some (.lst xs)):SqL K H a xs:=.inl (.inl h)
theorem SqT.of {K:PySem.W.Frag} (h:H a=some (.tup xs)):SqT K H a xs:=.inl (.inl h)
theorem Inv.list (I:Inv X pins σ H s) (h:SqL X.K H a xs):∃ its:List Value,bF xs its/\PlainL s.heap a its.toArray/\xs.length<=sizeLine:=by
 rcases h with h | ⟨o,its,n,hk,hc,hd,hs,hz,r⟩
 ·obtain ⟨z,its,n,r,e⟩:=h.ok I.hok
  exact ⟨its,r,⟨_,n,e,rfl,rfl,rfl⟩,z⟩
 ·refine ⟨its.toList,r,⟨o,n,I.kIn a o hk,hc,hd,by simpa using hs⟩,?_⟩
  have e:=r.length
  simp only [Array.length_toList] at e
  omega
theorem Inv.tuple (I:Inv X pins σ H s) (h:SqT X.K H a xs):∃ its:List Value,bF xs its/\IsTup s.heap a its.toArray/\xs.length<=sizeLine:=by
 rcases h with h | ⟨o,its,n,hk,hc,_,hs,hz,r⟩
 ·obtain ⟨z,its,n,r,p⟩:=h.ok I.hok
  exact ⟨its,r,⟨_,p,rfl,n,rfl⟩,z⟩
 ·refine ⟨its.toList,r,⟨o,I.kIn a o hk,hc,n,by simpa using hs⟩,?_⟩
  have e:=r.length
  simp only [Array.length_toList] at e
  omega
theorem Inv.list_inj (I:Inv X pins σ H s) (h:SqL X.K H a xs) (h':SqL X.K H a ys):xs=ys:=by
 obtain ⟨its,r,⟨o,n,e,_,_,d⟩,_⟩:=I.list h
 obtain ⟨its',r',⟨o',n',e',_,_,d'⟩,_⟩:=I.list h'
 rw [e] at e'; cases e'
 rw [d] at d'
 injection d' with d1 _
 have:its=its':=by simpa using congrArg Array.toList d1
 subst this
 exact r.inj r'
theorem Inv.tuple_inj (I:Inv X pins σ H s) (h:SqT X.K H a xs) (h':SqT X.K H a ys):xs=ys:=by
 obtain ⟨its,r,⟨o,e,_,n,d⟩,_⟩:=I.tuple h
 obtain ⟨its',r',⟨o',e',_,n',d'⟩,_⟩:=I.tuple h'
 rw [e] at e'; cases e'
 rw [d] at d'
 injection d' with d1 _
 have:its=its':=by simpa using congrArg Array.toList d1
 subst this
 exact r.inj r'
end
abbrev Cx.wish (X:Cx) (E:Value->Shared->Prop):Cx:={ X with xe:=E }
abbrev Cx.nox (X:Cx):Cx:=X.wish fun _ _=>False
theorem Cx.Ok.wish {X:Cx} (ok:X.Ok) (E:Value->Shared->Prop):(X.wish E).Ok :=
 ⟨ok.mod,ok.kind,ok.glob,ok.blt,ok.above,ok.inj,ok.has,ok.cab,ok.hd,ok.frames,ok.stk,ok.exf,ok.bs,ok.bsz,ok.noex,ok.exfs,ok.funs,ok.frf⟩
theorem Cx.Ok.unwish {X:Cx} {E:Value->Shared->Prop} (ok:(X.wish E).Ok):X.Ok :=
 ⟨ok.mod,ok.kind,ok.glob,ok.blt,ok.above,ok.inj,ok.has,ok.cab,ok.hd,ok.frames,ok.stk,ok.exf,ok.bs,ok.bsz,ok.noex,ok.exfs,ok.funs,ok.frf⟩
section
variable {X:Cx} {pins:List (Addr×Obj)} {σ:St} {H:Hp} {s:Shared} {E:Value->Shared->Prop}
theorem Inv.wish (I:Inv X pins σ H s) (E:Value->Shared->Prop):Inv (X.wish E) pins σ H s:=⟨I.ok.wish E,I.os,I.bare,I.base,I.loc,I.cell,I.free,I.freeC,I.pin,I.hok,I.len⟩
theorem Inv.unwish (I:Inv (X.wish E) pins σ H s):Inv X pins σ H s:=⟨I.ok.unwish,I.os,I.bare,I.base,I.loc,I.cell,I.free,I.freeC,I.pin,I.hok,I.len⟩
theorem SP.unwish {D:Ends} {f:Flow} {s':Shared} (h:SP (X.wish E) pins D f s'):SP X pins D f s':=by
 cases f with
 | next=>obtain ⟨σ',H',I,q⟩:=h; exact ⟨σ',H',I.unwish,q⟩
 | brk=>obtain ⟨σ',H',I,q⟩:=h; exact ⟨σ',H',I.unwish,q⟩
 | cont=>obtain ⟨σ',H',I,q⟩:=h; exact ⟨σ',H',I.unwish,q⟩
 | ret u=>obtain ⟨v,σ',H',I,r,q⟩:=h; exact ⟨v,σ',H',I.unwish,r,q⟩
theorem PE.nox {e:Expr} {t:TE} (h:PE X.nox e t):PE X e t:=fun pins s σ H Q I hw =>
 wpAny_mono (h pins s σ H Q (I.wish _) hw) (fun _ _ ⟨v,H',I',r,q⟩=>⟨v,H',I'.unwish,r,q⟩) fun _ _ z=>False.elim z
theorem PT.nox {e:Expr} {t:TT} (h:PT X.nox e t):PT X e t:=fun pins s σ H Q I hw =>
 wpAny_mono (h pins s σ H Q (I.wish _) hw) (fun _ _ ⟨H',I',q⟩=>⟨H',I'.unwish,q⟩) fun _ _ z=>False.elim z
theorem PSs.nox {st:List Stmt} {t:TS} (h:PSs X.nox st t):PSs X st t:=fun pins s σ H D I hw =>
 wpAny_mono (h pins s σ H D (I.wish _) hw) (fun _ _ q=>q.unwish) fun _ _ z=>False.elim z
end
section
variable {X:Cx} {st:Stmt} {iK:List Stmt} {t u:TS} {e:Expr} {te:TE} {pos:Pos}
def aDu:TS:=fun D σ H=>D.nx σ H
def aEw (t u:TS):TS:=fun D σ H=>t { D with nx:=u D } σ H
theorem bO:PSs X [] aDu:=fun _ _ σ H _ I h=>wpAny_execs_nil ⟨σ,H,I,h⟩
theorem aE (h1:PS X st t) (h2:PSs X iK u):PSs X (st::iK) (aEw t u):=by
 intro pins s σ H D I h
 refine wpAny_execs_cons (thn (h1 pins s σ H { D with nx:=u D } I h) fun f s1 q=>?_)
 cases f with
 | next =>
  obtain ⟨σ',H',I',q⟩:=q
  exact h2 pins s1 σ' H' D I' q
 | ret v=>exact q
 | brk=>exact q
 | cont=>exact q
theorem aI (h1:PS X st t):PSs X [st] t:=by
 intro pins s σ H D I h
 refine wpAny_execs_cons (thn (h1 pins s σ H D I h) fun f s1 q=>?_)
 cases f with
 | next=>exact wpAny_execs_nil q
 | ret v=>exact q
 | brk=>exact q
 | cont=>exact q
theorem Inv.quiet {pins:List (Addr×Obj)} {σ:St} {H:Hp} {s:Shared} (I:Inv X pins σ H s):interactive X.env=false:=by simp [interactive,I.ok.kind]
def aEx (te:TE):TS:=fun D σ H=>te σ H fun _ H1=>D.nx σ H1
theorem kC (he:PE X e te) (hs:swapsWith e none pos.line X.env=pure false:=by rfl):PS X (.Expr e pos) (aEx te):=by
 intro pins s σ H D I h
 refine wpAny_Expr_any (thn (he pins s σ H _ I h) fun v s1 hx9=>?_) I.quiet hs
 obtain ⟨x,H1,I1,r1,q1⟩:=hx9
 exact ⟨σ,H1,I1,q1⟩
def aFl (te:TE):TS:=fun D σ H=>te σ H D.rt
theorem aT (he:PE X e te):PS X (.Return (some e) pos) (aFl te):=by
 intro pins s σ H D I h
 refine wpAny_Return_some (thn (he pins s σ H _ I h) fun v s1 hx9=>?_)
 obtain ⟨x,H1,I1,r1,q1⟩:=hx9
 exact ⟨x,σ,H1,I1,r1,q1⟩
def aEy (c:TT) (t u:TS):TS:=fun D σ H=>c σ H fun b H1=>if b=true then t D σ H1 else u D σ H1
theorem cY {c:Expr} {a b:List Stmt} {tc:TT} (hc:PT X c tc) (ha:PSs X a t) (hb:PSs X b u):PS X (.If c a b pos) (aEy tc t u):=by
 intro pins s σ H D I h
 refine wpAny_If (thn (hc pins s σ H _ I h) fun d s1 hx9=>?_)
 obtain ⟨H1,I1,q1⟩:=hx9
 cases d with
 | true=>exact ha pins s1 σ H1 D I1 q1
 | false=>exact hb pins s1 σ H1 D I1 q1
def aDP:TS:=fun _ _ _=>False
theorem sD {sts:List Stmt}:PSs X sts aDP:=fun _ _ _ _ _ _ h=>h.elim
end
abbrev TG:=V->St->Hp->(St->Hp->Prop)->Prop
abbrev TGs:=List V->St->Hp->(St->Hp->Prop)->Prop
def PG (X:Cx) (target:Expr) (t:TG):Prop :=
 ∀ (pins:List (Addr×Obj)) (s:Shared) (σ:St) (H:Hp) (v:V) (u:Value) (Q:St->Hp->Prop),Inv X pins σ H s->bI v u->t v σ H Q ->
  wpAny (model X.prog X.w) X.A (assign target X.env u) (fun _ s'=>∃ σ' H',Inv X pins σ' H' s'/\Q σ' H') X.xe s
def PGs (X:Cx) (ts:List Expr) (t:TGs):Prop :=
 ∀ (pins:List (Addr×Obj)) (s:Shared) (σ:St) (H:Hp) (vs:List V) (us:List Value) (Q:St->Hp->Prop),Inv X pins σ H s->bF vs us->t vs σ H Q ->
  wpAny (model X.prog X.w) X.A (assignInOrder ((assignEach ts X.env).map (·.2)) us) (fun _ s'=>∃ σ' H',Inv X pins σ' H' s'/\Q σ' H') X.xe s
abbrev aAZ:=V->V->V->Hp->(Hp->Prop)->Prop
def aDQ (X:Cx) (t:aAZ):Prop :=
 ∀ (pins:List (Addr×Obj)) (s:Shared) (σ:St) (H:Hp) (o i v:V) (ov iv u:Value) (Q:Hp->Prop),Inv X pins σ H s->bI o ov->bI i iv->bI v u->t o i v H Q ->
  wpAny (model X.prog X.w) X.A (setItem ov iv u) (fun _ s'=>∃ H',Inv X pins σ H' s'/\Q H') X.xe s
abbrev TIp:=V->V->Hp->VK->Prop
def PIp (X:Cx) (op:Operator) (t:TIp):Prop :=
 ∀ (pins:List (Addr×Obj)) (s:Shared) (σ:St) (H:Hp) (x y:V) (v u:Value) (Q:VK),Inv X pins σ H s->bI x v->bI y u->t x y H Q ->
  wpAny (model X.prog X.w) X.A (inplaceOp op v u) (EP X pins σ Q) X.xe s
section
variable {X:Cx} {pos:Pos}
def dY (i:Nat):TG:=fun v σ H Q=>Q (σ.set i (some v)) H
theorem aM {i:Nat} {x:Str} (hN:X.N.Nodup) (hi:X.N[i]?=some x) (hx:Loc X.env.scope x) (hf:X.fn x=true∨X.env.scope.names.lookup x=some .local:=by first | exact .inl rfl | exact .inr rfl | assumption):PG X (.Name x pos) (dY i):=by
 intro pins s σ H v u Q I r h
 exact wpAny_assign_Name (mJ I hN hi hx r (fun s' I'=>⟨_,H,I',h⟩) hf)
def aFm:TGs:=fun vs σ H Q=>vs = []/\Q σ H
def aEz (t:TG) (u:TGs):TGs:=fun vs σ H Q=>∃ v r,vs=v::r/\t v σ H fun σ' H'=>u r σ' H' Q
theorem eA:PGs X [] aFm:=by
 intro pins s σ H vs us Q I r h
 obtain ⟨e,h⟩:=h
 subst e
 cases r
 exact assignInOrder_nil ⟨σ,H,I,h⟩
theorem aV {e:Expr} {es:List Expr} {t:TG} {u:TGs} (h1:PG X e t) (h2:PGs X es u)
  (hs:(assignEach (e::es) X.env).map (·.2)=assign e X.env::(assignEach es X.env).map (·.2):=by rfl):PGs X (e::es) (aEz t u):=by
 intro pins s σ H vs us Q I r h
 obtain ⟨v,vr,e1,h⟩:=h
 subst e1
 cases r with
 | cons r rr =>
  rw [hs]
  refine assignInOrder_cons (thn (h1 pins s σ H _ _ _ I r h) fun _ s1 hx9=>?_)
  obtain ⟨σ1,H1,I1,q1⟩:=hx9
  exact h2 pins s1 σ1 H1 _ _ Q I1 rr q1
def aEA (K:PySem.W.Frag) (n:Nat) (t:TGs):TG:=fun v σ H Q=>∃ a xs,v=.ref a/\SqT K H a xs/\xs.length=n/\t xs σ H Q
theorem kD {es:List Expr} {k:Nat} {t:TGs} {n:Nat} (hc:X.calm=true) (h:PGs X es t)
  (hn:(assignEach es X.env).length=n:=by rfl) (hst:(assignEach es X.env).findIdx? (·.1)=none:=by rfl):PG X (.Tuple es k pos) (aEA X.K n t):=by
 intro pins s σ H v u Q I r hw
 obtain ⟨a,xs,e1,hq,hl,hw⟩:=hw
 subst e1
 cases r
 obtain ⟨its,rv,ht,hz⟩:=I.tuple hq
 refine assign_Tuple_tuple (I.ok.hd hc) ht (by simp [hn,<- hl,rv.length]) hst fun h' hx=>?_
 have I1:Inv X pins σ H { s with heap:=h' }:=I.kept (t':=s.toks) fun b o e=>hx b o (Jr (Qm e)) e
 exact h pins _ σ H xs _ Q I1 (by simpa using rv) hw
def aFn (to ti:TE) (t:aAZ):TG:=fun v σ H Q=>to σ H fun o H1=>ti σ H1 fun i H2=>t o i v H2 fun H3=>Q σ H3
theorem aDR {o i:Expr} {to ti:TE} {t:aAZ} (ho:PE X o to) (hi:PE X i ti) (hs:aDQ X t)
  (ha:∀ v,assign (.Subscript o i pos) X.env v=(do
   let ov<-holding [v] (eval o X.env)
   let iv<-holding [v,ov] (eval i X.env)
   standAt pos
   holding [v,ov,iv] (setItem ov iv v)
   release [v,ov,iv] []):=by intro _; rfl):PG X (.Subscript o i pos) (aFn to ti t):=by
 intro pins s σ H v u Q I r h
 rw [ha]
 refine wpAny_bind (wpAny_holding (thn (ho pins s σ H _ I h) fun ov s1 hx9=>?_))
 obtain ⟨x,H1,I1,r1,q1⟩:=hx9
 refine wpAny_bind (wpAny_holding (thn (hi pins s1 σ H1 _ I1 q1) fun iv s2 hx9=>?_))
 obtain ⟨y,H2,I2,r2,q2⟩:=hx9
 refine wpAny_bind (wpAny_standAt (wpAny_bind (wpAny_holding (thn (hs pins s2 σ H2 x y v ov iv u _ I2 r1 r2 r q2) fun _ s3 hx9=>?_))))
 obtain ⟨H3,I3,q3⟩:=hx9
 exact wpAny_release ⟨σ,H3,I3,q3⟩
def aCp (te:TE) (g:TG):TS:=fun D σ H=>te σ H fun x H1=>g x σ H1 D.nx
theorem tJ {tg e:Expr} {te:TE} {g:TG} (he:PE X e te) (hg:PG X tg g) (hs:swapsWithSole [tg] e pos.line X.env=pure false:=by rfl) (hw:swappedStores [tg] e X.env=pure none:=by rfl)
  (h1:(assignEach [tg] X.env).map (·.2) = [assign tg X.env]:=by rfl):PS X (.Assign [tg] e pos) (aCp te g):=by
 intro pins s σ H D I h
 refine wpAny_Assign_stores (thn (he pins s σ H _ I h) fun v s1 hx9=>?_) hs hw
 obtain ⟨x,H1,I1,r1,q1⟩:=hx9
 rw [h1]
 exact thn (hg pins s1 σ H1 x v _ I1 r1 q1) fun _ s2 q=>q
theorem aS {i:Nat} {x:Str} {e:Expr} {te:TE} {pos':Pos} (hN:X.N.Nodup) (hi:X.N[i]?=some x) (hx:Loc X.env.scope x) (he:PE X e te) (hs:swapsWith e (some (.Name x pos')) pos.line X.env=pure false:=by rfl) (hf:X.fn x=true∨X.env.scope.names.lookup x=some .local:=by first | exact .inl rfl | exact .inr rfl | assumption) :
  PS X (.Assign [.Name x pos'] e pos) (aCp te (dY i)):=by
 intro pins s σ H D I h
 refine wpAny_Assign_Name (thn (he pins s σ H _ I h) fun v s1 hx9=>?_) hs
 obtain ⟨y,H1,I1,r1,q1⟩:=hx9
 exact mJ I1 hN hi hx r1 (fun s2 I2=>⟨_,H1,I2,q1⟩) hf
def aFo (i j:Nat) (ta:TA):TS:=fun D σ H=>ta σ H fun vs H1=>∃ v w,vs = [v,w]/\D.nx ((σ.set i (some v)).set j (some w)) H1
theorem aA0 {i j:Nat} {x y:Str} {a b:Expr} {ta:TA} {px py pt:Pos} {kt k2 pt2} (hc:X.calm=true) (hN:X.N.Nodup) (hi:X.N[i]?=some x) (hj:X.N[j]?=some y) (hij:i≠j)
  (hx:X.env.scope.names.lookup x=some .local) (hy:X.env.scope.names.lookup y=some .local) (ha:PA X [a,b] ta)
  (hw:swappedStores [.Tuple [.Name x px,.Name y py] kt pt] (.Tuple [a,b] k2 pt2) X.env=pure (some [x,y]))
  (hs:swapsWithSole [.Tuple [.Name x px,.Name y py] kt pt] (.Tuple [a,b] k2 pt2) pos.line X.env=pure false:=by rfl) :
  PS X (.Assign [.Tuple [.Name x px,.Name y py] kt pt] (.Tuple [a,b] k2 pt2) pos) (aFo i j ta):=by
 intro pins s σ H D I h
 rw [exec_Assign_arm]
 refine wpAny_bind (wpAny_standAt ?_)
 rw [hs]
 refine wpAny_bind (wpAny_pure ?_)
 rw [if_neg (by decide)]
 refine wpAny_bind (Tuple_ (thn (ha _ pins s σ H _ I h) fun us s1 hx9=>?_))
 obtain ⟨vs,H1,I1,r1,q1⟩:=hx9
 obtain ⟨v,w,e1,q1⟩:=q1
 subst e1
 obtain ⟨u1,u2,rfl,rv,rw'⟩:∃ u1 u2,us = [u1,u2]/\bI v u1/\bI w u2:=by
  cases r1 with
  | cons p q =>
   cases q with
   | cons p' q' =>
    cases q'
    exact ⟨_,_,rfl,p,p'⟩
 refine wpAny_newObj_type ?_ (by show 2<=sizeLine; decide)
 have I2:Inv X pins σ H1 { s1 with heap:=s1.heap.push { cls:=.type "tuple",data:=.seq [u1,u2].toArray } }:=I1.kept (t':=s1.toks) fun b o e=>Qb _ e
 rw [hw]
 refine wpAny_bind (wpAny_pure ?_)
 show wpAny (model X.prog X.w) X.A (do rule "assign.swapped-stores"; let items<-unpackItems (.ref s1.heap.objs.size) 2 none; assignInOrder [fun v=>bindName X.env y v,fun v=>bindName X.env x v] items.reverse; pure Flow.next) _ _ _
 refine wpAny_bind (wpAny_rule (wpAny_bind (unpackItems_tuple (items:=#[u1,u2]) (I.ok.hd hc) (IsTup.new s1.heap _) fun h' hx'=>?_)))
 have I3:=I2.kept (h':=h') (t':=s1.toks) fun b o e=>hx' b o (Jr (Qm e)) e
 show wpAny _ _ (assignInOrder [fun v=>bindName X.env y v,fun v=>bindName X.env x v] [u2,u1] >>= fun _=>pure Flow.next) _ _ _
 refine wpAny_bind (assignInOrder_cons (wpAny_bindName (mJ I3 hN hj (.inl hy) rw' (fun s2 I4=>?_) (.inr hy))))
 refine assignInOrder_cons (wpAny_bindName (mJ I4 hN hi (.inl hx) rv (fun s3 I5=>assignInOrder_nil (wpAny_pure ?_)) (.inr hx)))
 rw [List.set_comm _ _ (Ne.symm hij)] at I5
 exact ⟨_,H1,I5,q1⟩
def aEB (to ti te:TE) (tget:V->V->Hp->VK->Prop) (tip:TIp) (tset:aAZ):TS:=fun D σ H=>to σ H fun o H1=>ti σ H1 fun i H2=>tget o i H2 fun x H3=>te σ H3 fun y H4=>tip x y H4 fun z H5=>tset o i z H5 fun H6=>D.nx σ H6
def aEC (X:Cx) (t:V->V->Hp->VK->Prop):Prop :=
 ∀ (pins:List (Addr×Obj)) (s:Shared) (σ:St) (H:Hp) (o i:V) (ov iv:Value) (Q:VK),Inv X pins σ H s->bI o ov->bI i iv->t o i H Q ->
  wpAny (model X.prog X.w) X.A (getItem ov iv) (EP X pins σ Q) X.xe s
theorem aCq {o i e:Expr} {to ti te:TE} {tget:V->V->Hp->VK->Prop} {tip:TIp} {tset:aAZ} {op:Operator} {tpos:Pos} (ho:PE X o to) (hi:PE X i ti) (hg:aEC X tget) (he:PE X e te) (hp:PIp X op tip) (hs:aDQ X tset)
  (ha:∀ ov iv new,augStore i ov iv new=(do holding [new,ov,iv] (setItem ov iv new); release [new,ov,iv] []; pure .next):=by intros; rfl):PS X (.AugAssign (.Subscript o i tpos) op e pos) (aEB to ti te tget tip tset):=by
 intro pins s σ H D I h
 refine wpAny_AugAssign_SubscriptAny (thn (ho pins s σ H _ I h) fun ov s1 hx9=>?_) ha
 obtain ⟨x1,H1,I1,r1,q1⟩:=hx9
 refine thn (hi pins s1 σ H1 _ I1 q1) fun iv s2 hx9=>?_
 obtain ⟨x2,H2,I2,r2,q2⟩:=hx9
 refine thn (hg pins s2 σ H2 x1 x2 ov iv _ I2 r1 r2 q2) fun old s3 hx9=>?_
 obtain ⟨x3,H3,I3,r3,q3⟩:=hx9
 refine thn (he pins s3 σ H3 _ I3 q3) fun v s4 hx9=>?_
 obtain ⟨x4,H4,I4,r4,q4⟩:=hx9
 refine thn (hp pins s4 σ H4 x3 x4 old v _ I4 r3 r4 q4) fun new s5 hx9=>?_
 obtain ⟨x5,H5,I5,r5,q5⟩:=hx9
 refine thn (hs pins s5 σ H5 x1 x2 x5 ov iv new _ I5 r1 r2 r5 q5) fun _ s6 hx9=>?_
 obtain ⟨H6,I6,q6⟩:=hx9
 exact ⟨σ,H6,I6,q6⟩
def ipI (f:Int->Int->Int):TIp:=fun x y H Q=>∃ i j,x=.int i/\y=.int j/\Q (.int (f i j)) H
theorem aDS:PIp X .Sub (ipI fun i j=>i - j):=by
 intro pins s σ H x y v u Q I r1 r2 h
 obtain ⟨i,j,e1,e2,q⟩:=h
 subst e1; subst e2
 obtain ⟨t,rfl⟩:=r1
 obtain ⟨t',rfl⟩:=r2
 exact isub_int ⟨.int _,H,I.tok _,⟨_,rfl⟩,q⟩
def aDT (c:TT) (tb:TS):TS:=fun D σ H=>∃ W:Nat->St->Hp->Prop,(∃ m,W m σ H)/\∀ m σ H,W m σ H ->
 c σ H fun b H1=>if b=true then ∃ N:St->Hp->Prop,(∀ σ' H',N σ' H'->∃ m',m' < m/\W m' σ' H')/\tb { D with nx:=N,ct:=N,bk:=D.nx } σ H1 else D.nx σ H1
theorem jP {c:Expr} {body:List Stmt} {tc:TT} {tb:TS} (hp:PassesOwn (model X.prog X.w) X.A X.env X.xe) (hc:PT X c tc) (hb:PSs X body tb):PS X (.While c body [] pos) (aDT tc tb):=by
 intro pins s σ H D I h
 obtain ⟨W,⟨m0,w0⟩,turn⟩:=h
 refine wpAny_While (codeAny_whileLoop (fun n s'=>∃ σ' H',Inv X pins σ' H' s'/\W n σ' H') ?_ m0 ⟨σ,H,I,w0⟩)
 rintro n s1 ⟨σ1,H1,I1,w1⟩
 refine wpAny_passesOwn hp (thn (hc pins s1 σ1 H1 _ I1 (turn n σ1 H1 w1)) fun b s2 hx9=>?_)
 obtain ⟨H2,I2,q2⟩:=hx9
 cases b with
 | true =>
  obtain ⟨N,hN,q2⟩:=q2
  rw [if_pos rfl]
  refine wpAny_passesOwn hp (thn (hb pins s2 σ1 H2 _ I2 q2) fun f s3 q3=>?_)
  cases f with
  | next =>
   obtain ⟨σ3,H3,I3,n3⟩:=q3
   obtain ⟨m',hm,w3⟩:=hN σ3 H3 n3
   exact ⟨m',hm,σ3,H3,I3,w3⟩
  | cont =>
   obtain ⟨σ3,H3,I3,n3⟩:=q3
   obtain ⟨m',hm,w3⟩:=hN σ3 H3 n3
   exact ⟨m',hm,σ3,H3,I3,w3⟩
  | brk=>exact q3
  | ret v=>exact q3
 | false =>
  rw [if_neg Qz]
  exact wpAny_execs_nil ⟨σ1,H2,I2,q2⟩
end
structure It where
 go:Nat->Hp->Prop
 yld:Nat->Hp->V->Hp->Prop
 stop:Nat->Hp->Prop
def iL (X:Cx) (pins:List (Addr×Obj)) (H:Hp) (b:Addr):Prop :=
 H b=none/\b≠X.env.locals/\b∉X.fs/\(b∈X.ex∨X.s₀.heap.objs.size<=b)/\(∀ x c,X.env.cells.lookup x=some c->c≠b)/\∀ p∈X.pn++pins,p.1≠b
theorem Inv.fpOk {X:Cx} {pins:List (Addr×Obj)} {σ:St} {H H':Hp} {s:Shared} {b:Addr} (I:Inv X pins σ H s) (hb:s.heap.objs.size<=b) (hn:H' b=none):iL X pins H' b:=by
 refine ⟨hn,Yd (Qi I.lt hb),I.nofs hb,.inr (Qt I.sz hb),fun x c e z=>?_,fun p hp z=>?_⟩
 ·obtain ⟨v,q⟩:=I.cell x c e
  exact absurd (Qi q.lt (by rw [z]; exact hb)) (Qy _)
 ·exact absurd (Qi (Qm (I.pin p hp).1) (by rw [z]; exact hb)) (Qy _)
structure Turn (P:Program) (w:World) (K:PySem.W.Frag) (tg:Expr) (J:It) (fp:List Addr) (it:Addr) (tn:Nat->Heap->Prop):Prop where
 mem:it∈fp
 obj:∀ i h,tn i h->∀ b∈fp,∃ o,h.get? b=some o/\∀ v,o.data≠.cell v
 keep:∀ i h h',tn i h->(∀ b∈fp,∀ o,h.get? b=some o->h'.get? b=some o)->tn i h'
 item:∀ (X:Cx),X.prog=P->X.w=w->X.K=K->X.calm=true->∀ (i:Nat) (pins:List (Addr×Obj)) (s:Shared) (σ:St) (H:Hp) (E:Value->Shared->Prop),Inv X pins σ H s->(∀ b∈fp,iL X pins H b)->tn i s.heap->J.go i H ->
  wpAny (model P w) X.A (pyNext (.ref it)) (fun r s1=>∃ u,r=some u /\
   wpAny (model P w) X.A (letOwnedTupleGo tg (.ref it) u) (fun _ s2=>∃ x H',Inv X pins σ H' s2/\bI x u/\J.yld i H x H'/\tn (i+1) s2.heap/\∀ b∈fp,H' b=none) E s1) E s
 done:∀ (X:Cx),X.prog=P->X.w=w->X.K=K->X.calm=true->∀ (i:Nat) (pins:List (Addr×Obj)) (s:Shared) (σ:St) (H:Hp) (E:Value->Shared->Prop),Inv X pins σ H s->(∀ b∈fp,iL X pins H b)->tn i s.heap->J.stop i H ->
  wpAny (model P w) X.A (pyNext (.ref it)) (fun r s1=>r=none/\Inv X pins σ H s1) E s
 self:∀ (A:Around) (i:Nat) (s:Shared) (Q:Value->Shared->Prop) (E:Value->Shared->Prop),tn i s.heap->Q (.ref it) s->wpAny (model P w) A (pyIter (.ref it)) Q E s
abbrev TI:=St->Hp->(It->Hp->Prop)->Prop
def PIE (X:Cx) (pins:List (Addr×Obj)) (σ:St) (tg:Expr) (R:It->Hp->Prop) (itv:Value) (s2:Shared):Prop :=
 ∃ (it:Addr) (fp:List Addr) (tn:Nat->Heap->Prop) (J:It) (H':Hp),itv=.ref it/\Inv X pins σ H' s2/\Turn X.prog X.w X.K tg J fp it tn/\tn 0 s2.heap/\(∀ b∈fp,iL X pins H' b)/\R J H'
def PI (X:Cx) (tg iter:Expr) (wi:TI):Prop :=
 ∀ (pins:List (Addr×Obj)) (s:Shared) (σ:St) (H:Hp) (R:It->Hp->Prop),Inv X pins σ H s->wi σ H R ->
  wpAny (model X.prog X.w) X.A (eval iter X.env) (fun v s1=>wpAny (model X.prog X.w) X.A (pyIter v) (PIE X pins σ tg R) X.xe s1) X.xe s
theorem yH {M:Model} {A:Around} {E:Value->Shared->Prop} {s:Shared} {tg:Expr} {it:Addr} {u:Value} {o:Obj} {n:String} {vs:Array Value} {Q:Unit->Shared->Prop} (ho:s.heap.get? it=some o) (hc:o.cls=.type n) (hd:o.data=.fields vs)
  (hn : ["enumerate", "zip", "dict_itemiterator", "dict_reverseitemiterator", "odict_iterator", "itertools.zip_longest", "itertools.pairwise"].contains n=false) (hQ:Q () s):wpAny M A (letOwnedTupleGo tg (.ref it) u) Q E s:=by
 unfold letOwnedTupleGo
 cases tg <;> first
  | exact wpAny_pure hQ
  | (cases u <;> first
    | exact wpAny_pure hQ
    | (refine wpAny_bind (wpAny_load ho ?_)
       rw [hc,hd]
       show wpAny M A (if (["enumerate", "zip", "dict_itemiterator", "dict_reverseitemiterator", "odict_iterator", "itertools.zip_longest", "itertools.pairwise"].contains n && vs[0]?==some (rawInt _))=true then _ else _) Q E s
       rw [if_neg (by intro h; rw [hn,Yc] at h; cases h)]
       exact wpAny_pure hQ))
def Itl (K:PySem.W.Frag) (a:Addr):It :=
 ⟨fun i H=>∃ xs x,SqL K H a xs/\xs[i]?=some x,fun i H x H'=>H'=H/\∀ xs,SqL K H a xs->xs[i]?=some x,fun i H=>∃ xs,SqL K H a xs/\xs.length<=i⟩
def Itt (K:PySem.W.Frag) (a:Addr):It :=
 ⟨fun i H=>∃ xs x,SqT K H a xs/\xs[i]?=some x,fun i H x H'=>H'=H/\∀ xs,SqT K H a xs->xs[i]?=some x,fun i H=>∃ xs,SqT K H a xs/\xs.length<=i⟩
def Itr (lo:Int) (n:Nat):It:=⟨fun i _=>i < n,fun i H x H'=>H'=H/\x=.int (lo+i),fun i _=>n<=i⟩
theorem aAb {P:Program} {w:World} {K:PySem.W.Frag} {tg:Expr} (a it:Addr):Turn P w K tg (Itl K a) [it] it (fun i h=>h.IsListIter it a i) where
 mem:=by simp
 obj:=fun i h st b hb=>by
  have e:b=it:=by simpa using hb
  subst e
  obtain ⟨o,e,c,d⟩:=st
  exact ⟨o,e,fun v z=>by rw [d] at z; cases z⟩
 keep:=fun i h h' st k=>st.at fun o e=>k it (by simp) o e
 item:=by
  intro X hP hw hK hc i pins s σ H E I hf st hg
  subst hP hw hK
  obtain ⟨xs,x,hq,hx⟩:=hg
  obtain ⟨its,rv,p,hz⟩:=I.list hq
  obtain ⟨u,hu,ru⟩:=rv.get hx
  obtain ⟨f0,f1,f2,f3,f4,f5⟩:=hf it (by simp)
  refine wpAny_pyNext_list_item st p.isList (x:=u) (by simpa using hu) fun h' st' sb=>?_
  have I1:Inv X pins σ H { s with heap:=h' }:=I.turned (t':=s.toks) (fun b o hb e=>(sb.2 b hb).trans e) f0 f1 f3 f4 f5
  obtain ⟨o,e,c,d⟩:=id st'
  exact ⟨u,rfl,yH (s:={ s with heap:=h' }) e c d (by decide) ⟨x,H,I1,ru,⟨rfl,fun ys hy=>by rw [I.list_inj hy hq]; exact hx⟩,st',fun b hb=>(hf b hb).1⟩⟩
 done:=by
  intro X hP hw hK hc i pins s σ H E I hf st hg
  subst hP hw hK
  obtain ⟨xs,hq,hx⟩:=hg
  obtain ⟨its,rv,p,hz⟩:=I.list hq
  obtain ⟨f0,f1,f2,f3,f4,f5⟩:=hf it (by simp)
  have hl:=rv.length
  exact wpAny_pyNext_list_end (I.ok.hd hc) st p.isList (by simp; omega) fun h' eb=>⟨rfl,I.turned (t':=s.toks) (fun b o hb e=>eb b o hb e) f0 f1 f3 f4 f5⟩
 self:=fun _ _ _ _ _ st h=>wpAny_pyIter_listiter st h
theorem xH {P:Program} {w:World} {K:PySem.W.Frag} {tg:Expr} (a it:Addr):Turn P w K tg (Itt K a) [it] it (fun i h=>h.IsTupleIter it a i) where
 mem:=by simp
 obj:=fun i h st b hb=>by
  have e:b=it:=by simpa using hb
  subst e
  obtain ⟨o,e,c,d⟩:=st
  exact ⟨o,e,fun v z=>by rw [d] at z; cases z⟩
 keep:=fun i h h' st k=>st.at fun o e=>k it (by simp) o e
 item:=by
  intro X hP hw hK hc i pins s σ H E I hf st hg
  subst hP hw hK
  obtain ⟨xs,x,hq,hx⟩:=hg
  obtain ⟨its,rv,p,hz⟩:=I.tuple hq
  obtain ⟨u,hu,ru⟩:=rv.get hx
  obtain ⟨f0,f1,f2,f3,f4,f5⟩:=hf it (by simp)
  refine wpAny_pyNext_tuple_item st (show s.heap.IsTuple a its.toArray from p) (x:=u) (by simpa using hu) fun h' st' sb=>?_
  have I1:Inv X pins σ H { s with heap:=h' }:=I.turned (t':=s.toks) (fun b o hb e=>(sb.2 b hb).trans e) f0 f1 f3 f4 f5
  obtain ⟨o,e,c,d⟩:=id st'
  exact ⟨u,rfl,yH (s:={ s with heap:=h' }) e c d (by decide) ⟨x,H,I1,ru,⟨rfl,fun ys hy=>by rw [I.tuple_inj hy hq]; exact hx⟩,st',fun b hb=>(hf b hb).1⟩⟩
 done:=by
  intro X hP hw hK hc i pins s σ H E I hf st hg
  subst hP hw hK
  obtain ⟨xs,hq,hx⟩:=hg
  obtain ⟨its,rv,p,hz⟩:=I.tuple hq
  obtain ⟨f0,f1,f2,f3,f4,f5⟩:=hf it (by simp)
  have hl:=rv.length
  exact wpAny_pyNext_tuple_end (I.ok.hd hc) st (show s.heap.IsTuple a its.toArray from p) (by simp; omega) fun h' eb=>⟨rfl,I.turned (t':=s.toks) (fun b o hb e=>eb b o hb e) f0 f1 f3 f4 f5⟩
 self:=fun _ _ _ _ _ st h=>wpAny_pyIter_tupleiter st h
theorem xI {P:Program} {w:World} {K:PySem.W.Frag} {tg:Expr} (it:Addr) (lo:Int) (n:Nat):Turn P w K tg (Itr lo n) [it] it (fun i h=>IsRangeIter h it (lo+(i:Nat)*1) ((n:Int) - (i:Nat)) 1) where
 mem:=by simp
 obj:=fun i h st b hb=>by
  have e:b=it:=by simpa using hb
  subst e
  exact ⟨_,st,fun v z=>by
   have z':Data.fields _=Data.cell v:=z
   cases z'⟩
 keep:=fun i h h' st k=>k it (by simp) _ st
 item:=by
  intro X hP hw hK hc i pins s σ H E I hf st hg
  subst hP hw hK
  obtain ⟨f0,f1,f2,f3,f4,f5⟩:=hf it (by simp)
  have W:=Walks.range (prog:=X.prog) (w:=X.w) (I.ok.hd hc) it lo 1 n
  refine W.item i s _ _ hg st fun v h' tk hv st' kk=>?_
  obtain ⟨t,rfl⟩:=hv
  have I1:Inv X pins σ H { s with heap:=h',toks:=tk }:=I.turned (fun b o hb e=>kk b o (by simpa using hb) e) f0 f1 f3 f4 f5
  refine ⟨_,rfl,yH (s:={ s with heap:=h',toks:=tk }) (n := "range_iterator") st' rfl rfl (by decide) ⟨.int (lo+i),H,I1,⟨t,?_⟩,⟨rfl,rfl⟩,st',fun b hb=>(hf b hb).1⟩⟩
  rw [Int.mul_one]
 done:=by
  intro X hP hw hK hc i pins s σ H E I hf st hg
  subst hP hw hK
  obtain ⟨f0,f1,f2,f3,f4,f5⟩:=hf it (by simp)
  exact wpAny_pyNext_range_end (I.ok.hd hc) st (by have:n<=i:=hg; omega) fun h' eb=>⟨rfl,I.turned (t':=s.toks) (fun b o hb e=>eb b o hb e) f0 f1 f3 f4 f5⟩
 self:=fun _ _ _ _ _ st h=>wpAny_pyIter_rangeiter st h
section
variable {X:Cx} {tg:Expr}
def aED (K:PySem.W.Frag) (tl:TE):TI:=fun σ H R=>tl σ H fun x H1=>∃ a,x=.ref a/\(∃ xs,SqL K H1 a xs)/\R (Itl K a) H1
def aEE (K:PySem.W.Frag) (tl:TE):TI:=fun σ H R=>tl σ H fun x H1=>∃ a,x=.ref a/\(∃ xs,SqT K H1 a xs)/\R (Itt K a) H1
theorem cG {l:Expr} {tl:TE} (hl:PE X l tl):PI X tg l (aED X.K tl):=by
 intro pins s σ H R I h
 refine thn (hl pins s σ H _ I h) fun v s1 hx9=>?_
 obtain ⟨x,H1,I1,r1,q1⟩:=hx9
 obtain ⟨a,e,⟨xs,hq⟩,q⟩:=q1
 subst e
 cases r1
 obtain ⟨its,rv,p,hz⟩:=I1.list hq
 refine wpAny_pyIter_list p.isList ?_
 refine ⟨s1.heap.objs.size,[s1.heap.objs.size],_,_,H1,rfl,I1.kept (t':=s1.toks) fun b o e=>Qb _ e,aAb a _,⟨_,Qn _ rfl,rfl,rfl⟩,fun b hb=>?_,q⟩
 have e:b=s1.heap.objs.size:=by simpa using hb
 subst e
 exact I1.fpOk (Qh _) (I1.hok.fresh (Qh _))
theorem gM {l:Expr} {tl:TE} (hl:PE X l tl):PI X tg l (aEE X.K tl):=by
 intro pins s σ H R I h
 refine thn (hl pins s σ H _ I h) fun v s1 hx9=>?_
 obtain ⟨x,H1,I1,r1,q1⟩:=hx9
 obtain ⟨a,e,⟨xs,hq⟩,q⟩:=q1
 subst e
 cases r1
 obtain ⟨its,rv,p,hz⟩:=I1.tuple hq
 refine wpAny_pyIter_tuple (show s1.heap.IsTuple a its.toArray from p) ?_
 refine ⟨s1.heap.objs.size,[s1.heap.objs.size],_,_,H1,rfl,I1.kept (t':=s1.toks) fun b o e=>Qb _ e,xH a _,⟨_,Qn _ rfl,rfl,rfl⟩,fun b hb=>?_,q⟩
 have e:b=s1.heap.objs.size:=by simpa using hb
 subst e
 exact I1.fpOk (Qh _) (I1.hok.fresh (Qh _))
theorem vA {pins:List (Addr×Obj)} {σ:St} {H:Hp} {s:Shared} {R:It->Hp->Prop} {E:Value->Shared->Prop} {lo hi:Int} {t u v:Tok} {tk:Nat} (I:Inv X pins σ H s) (h1:-(2^62)<=lo) (h2:lo < 2^62) (h3:-(2^62)<=hi) (h4:hi < 2^62)
  (q:R (Itr lo (hi - lo).toNat) H):wpAny (model X.prog X.w) X.A (pyIter (.ref s.heap.objs.size)) (PIE X pins σ tg R) E { s with heap:=s.heap.push { cls:=.type "range",data:=.fields #[.int lo t,.int hi u,.int 1 v] },toks:=tk }:=by
 refine wpAny_pyIter_range (IsRange.new ..) (small_one h1 h2 h3 h4) ?_
 have I1:Inv X pins σ H { s with heap:=s.heap.push { cls:=.type "range",data:=.fields #[.int lo t,.int hi u,.int 1 v] },toks:=tk }:=I.kept fun b o e=>Qb _ e
 refine ⟨(s.heap.push { cls:=.type "range",data:=.fields #[.int lo t,.int hi u,.int 1 v] }).objs.size,[(s.heap.push { cls:=.type "range",data:=.fields #[.int lo t,.int hi u,.int 1 v] }).objs.size],_,_,H,rfl,
  I1.kept (t':=tk) fun b o e=>Qb _ e,xI _ lo (hi - lo).toNat,?_,fun b hb=>?_,q⟩
 ·have e1:lo+((0:Nat):Int)*1=lo:=by simp
  have e2:(((hi - lo).toNat:Nat):Int) - ((0:Nat):Int)=Builtin.Range.rangeSize lo hi 1:=by rw [rangeSize_one]; split <;> omega
  show IsRangeIter _ _ (lo+((0:Nat):Int)*1) ((((hi - lo).toNat:Nat):Int) - ((0:Nat):Int)) 1
  rw [e1,e2]
  exact Qn _ rfl
 ·have e:b=(s.heap.push { cls:=.type "range",data:=.fields #[.int lo t,.int hi u,.int 1 v] }).objs.size:=by simpa using hb
  subst e
  exact I1.fpOk (Qh _) (I1.hok.fresh (Qh _))
def aEF (ta:TA):TI:=fun σ H R=>ta σ H fun vs H1=>∃ j:Int,vs = [.int j]/\-(2^62)<=j/\j < 2^62/\R (Itr 0 j.toNat) H1
def aEG (ta:TA):TI:=fun σ H R=>ta σ H fun vs H1=>∃ i j:Int,vs = [.int i,.int j]/\(-(2^62)<=i/\i < 2^62/\-(2^62)<=j/\j < 2^62)/\R (Itr i (j - i).toNat) H1
theorem gN {a:Expr} {ta:TA} {p pos:Pos} (hg:Gl X "range") (hm:X.mg "range" = none) (ha:PA X [a] ta) (hs:starEach [a] X.env = [(false,eval a X.env)]:=by rfl):PI X tg (.Call (.Name "range" p) [a] [] pos) (aEF ta):=by
 intro pins s σ H R I h
 refine Call_ (kB I hg hm boot_range (PyProof.Rows.callWith_type1 (thn (ha pos pins s σ H _ I h) fun us s1 hx9=>?_) hs rfl))
 obtain ⟨vs,H1,I1,r1,q1⟩:=hx9
 obtain ⟨j,e,q1,q2,q⟩:=q1
 subst e
 cases r1 with
 | cons r rr =>
  cases rr
  obtain ⟨t,rfl⟩:=r
  exact call_range_1 (vA I1 (by omega) (by omega) q1 q2 (by simpa using q))
theorem sF {a b:Expr} {ta:TA} {p pos:Pos} (hg:Gl X "range") (hm:X.mg "range" = none) (ha:PA X [a,b] ta) (hs:starEach [a,b] X.env = [(false,eval a X.env),(false,eval b X.env)]:=by rfl) (hs2:starEach [b] X.env = [(false,eval b X.env)]:=by rfl) :
  PI X tg (.Call (.Name "range" p) [a,b] [] pos) (aEG ta):=by
 intro pins s σ H R I h
 refine Call_ (kB I hg hm boot_range (PyProof.Rows.callWith_type1 (thn (ha pos pins s σ H _ I h) fun us s1 hx9=>?_) (by rw [hs,hs2]) (by rw [hs2]; rfl)))
 obtain ⟨vs,H1,I1,r1,q1⟩:=hx9
 obtain ⟨i,j,e,⟨q1,q2,q3,q4⟩,q⟩:=q1
 subst e
 cases r1 with
 | cons r rr =>
  cases rr with
  | cons r' rr =>
   cases rr
   obtain ⟨t,rfl⟩:=r
   obtain ⟨t',rfl⟩:=r'
   exact call_range_2 (vA I1 q1 q2 q3 q4 q)
def aFp (wi:TI) (g:TG) (tb:TS):TS:=fun D σ H=>wi σ H fun J H1=>∃ W:Nat->Nat->St->Hp->Prop,(∃ m,W 0 m σ H1)/\∀ i m σ H,W i m σ H ->
 (J.stop i H/\D.nx σ H)∨(J.go i H/\∃ N:St->Hp->Prop,(∀ σ' H',N σ' H'->∃ m',m' < m/\W (i+1) m' σ' H')/\∀ x H',J.yld i H x H'->g x σ H' fun σ2 H2=>tb { D with nx:=N,ct:=N,bk:=D.nx } σ2 H2)
def kT (fp:List Addr) (h:Heap):List (Addr×Obj):=fp.filterMap fun b=>(h.get? b).map fun o=>(b,o)
theorem dX {fp:List Addr} {h:Heap} {b:Addr} {o:Obj} (hb:b∈fp) (e:h.get? b=some o):(b,o)∈kT fp h:=Wu.mpr ⟨b,hb,by rw [e]; rfl⟩
theorem sG {fp:List Addr} {h:Heap} {p:Addr×Obj} (hp:p∈kT fp h):p.1∈fp/\h.get? p.1=some p.2:=by
 obtain ⟨b,hb,e⟩:=Wu.mp hp
 cases q:h.get? b with
 | none=>rw [q] at e; cases e
 | some o =>
  rw [q] at e
  have e':(b,o)=p:=Option.some.inj e
  subst e'
  exact ⟨hb,q⟩
theorem Inv.pinned {pins:List (Addr×Obj)} {σ:St} {H:Hp} {s:Shared} {fp:List Addr} (I:Inv X pins σ H s) (hf:∀ b∈fp,iL X pins H b) (ho:∀ b∈fp,∃ o,s.heap.get? b=some o/\∀ v,o.data≠.cell v):Inv X (pins++kT fp s.heap) σ H s :=
 I.pins_of fun p hp=>(Jm.mp hp).elim (fun z=>I.pin p (Qo _ z)) fun z=>by
  obtain ⟨hb,e⟩:=sG z
  obtain ⟨f0,f1,f2,_⟩:=hf p.1 hb
  obtain ⟨o,e',d⟩:=ho p.1 hb
  rw [e] at e'; cases e'
  exact ⟨e,f0,f1,f2,d⟩
theorem Inv.unpinned {pins pl:List (Addr×Obj)} {σ:St} {H:Hp} {s:Shared} (I:Inv X (pins++pl) σ H s):Inv X pins σ H s:=I.pins_of fun p hp=>I.pin p (Qo _ (Jq _ hp))
theorem fE {iter:Expr} {body:List Stmt} {wi:TI} {g:TG} {tb:TS} {pos:Pos} (hp:PassesOwn (model X.prog X.w) X.A X.env X.xe) (hc:X.calm=true) (hi:PI X tg iter wi) (hg:PG X tg g) (hb:PSs X body tb)
  (hs:∀ x,foldedSetIterable iter X.env x=pure x:=by intro _; rfl):PS X (.For tg iter body [] pos) (aFp wi g tb):=by
 intro pins s σ H D I h
 refine wpAny_For (thn (hi pins s σ H _ I h) fun v s1 h1=>thn h1 fun itv s2 h2=>?_) hs
 obtain ⟨it,fp,tn,J,H2,e,I2,T,st2,f2,W,⟨m0,w0⟩,turn⟩:=h2
 subst e
 -- what stays true of the iterator's objects through the loop
 have stat:∀ {H':Hp},(∀ b∈fp,H' b=none)->∀ b∈fp,iL X pins H' b:=fun hn b hb=>⟨hn b hb,(f2 b hb).2⟩
 refine codeAny_forLoop_any (fun n s'=>∃ i σ' H',Inv X pins σ' H' s'/\tn i s'.heap/\(∀ b∈fp,H' b=none)/\W i n σ' H') ?_ m0 ⟨0,σ,H2,I2,st2,fun b hb=>(f2 b hb).1,w0⟩
 rintro n s3 ⟨i,σ3,H3,I3,st3,fr3,w3⟩
 rcases turn i n σ3 H3 w3 with ⟨stop,qn⟩ | ⟨go,N,hN,step⟩
 ·refine wpAny_passesOwn hp (thn (T.done X rfl rfl rfl hc i pins s3 σ3 H3 X.xe I3 (stat fr3) st3 stop) fun r s4 hx9=>?_)
  obtain ⟨hr,I4⟩:=hx9
  subst hr
  exact wpAny_execs_nil ⟨σ3,H3,I4,qn⟩
 ·refine wpAny_passesOwn hp (thn (T.item X rfl rfl rfl hc i pins s3 σ3 H3 X.xe I3 (stat fr3) st3 go) fun r s4 hx9=>?_)
  obtain ⟨u,hr,h4⟩:=hx9
  subst hr
  refine wpAny_passesOwn hp (thn h4 fun _ s5 hx9=>?_)
  obtain ⟨x,H5,I5,r5,y5,st5,fr5⟩:=hx9
  have I5':=I5.pinned (stat fr5) (T.obj _ _ st5)
  refine wpAny_passesOwn hp (thn (hg _ s5 σ3 H5 x u _ I5' r5 (step x H5 y5)) fun _ s6 hx9=>?_)
  obtain ⟨σ6,H6,I6,q6⟩:=hx9
  refine wpAny_passesOwn hp (thn (hb _ s6 σ6 H6 _ I6 q6) fun f s7 q7=>?_)
  have again:∀ {σ7:St} {H7:Hp},Inv X (pins++kT fp s5.heap) σ7 H7 s7->N σ7 H7->∃ m,m < n/\∃ i σ' H',Inv X pins σ' H' s7/\tn i s7.heap/\(∀ b∈fp,H' b=none)/\W i m σ' H':=fun {σ7 H7} I7 n7=>by
   obtain ⟨m',hm,w7⟩:=hN σ7 H7 n7
   refine ⟨m',hm,i+1,σ7,H7,I7.unpinned,T.keep _ _ _ st5 fun b hb o e=>(I7.pin (b,o) (Qo _ (Qo _ (dX hb e)))).1,fun b hb=>?_,w7⟩
   obtain ⟨o,e,d⟩:=T.obj _ _ st5 b hb
   exact (I7.pin (b,o) (Qo _ (Qo _ (dX hb e)))).2.1
  cases f with
  | next=>obtain ⟨σ7,H7,I7,n7⟩:=q7; exact again I7 n7
  | cont=>obtain ⟨σ7,H7,I7,n7⟩:=q7; exact again I7 n7
  | brk=>obtain ⟨σ7,H7,I7,q7⟩:=q7; exact ⟨σ7,H7,I7.unpinned,q7⟩
  | ret v=>obtain ⟨x7,σ7,H7,I7,r7,q7⟩:=q7; exact ⟨x7,σ7,H7,I7.unpinned,r7,q7⟩
end
theorem iS {K:PySem.W.Frag} {a:Addr} {xs:List V} {g:TG} {tb:TS} {D:Ends} {σ:St} {H:Hp} (Pv:Nat->St->Hp->Prop) (h0:Pv 0 σ H) (hl:∀ i σ H,i<=xs.length->Pv i σ H->SqL K H a xs)
  (hs:∀ i x σ H,xs[i]?=some x->Pv i σ H->g x σ H fun σ2 H2=>tb { D with nx:=Pv (i+1),ct:=Pv (i+1),bk:=D.nx } σ2 H2) (hd:∀ σ H,Pv xs.length σ H->D.nx σ H) :
  ∃ W:Nat->Nat->St->Hp->Prop,(∃ m,W 0 m σ H)/\∀ i m σ H,W i m σ H ->
   ((Itl K a).stop i H/\D.nx σ H)∨((Itl K a).go i H/\∃ N:St->Hp->Prop,(∀ σ' H',N σ' H'->∃ m',m' < m/\W (i+1) m' σ' H')/\∀ x H',(Itl K a).yld i H x H'->g x σ H' fun σ2 H2=>tb { D with nx:=N,ct:=N,bk:=D.nx } σ2 H2):=by
 refine ⟨fun i m σ H=>m=xs.length - i/\i<=xs.length/\Pv i σ H,⟨xs.length,by simp,Jf _,h0⟩,?_⟩
 rintro i m σ H ⟨rfl,hi,p⟩
 have q:=hl i σ H hi p
 by_cases hlt:i < xs.length
 ·refine .inr ⟨⟨xs,xs[i],q,by simp [hlt]⟩,Pv (i+1),fun σ' H' p'=>⟨xs.length - (i+1),by omega,rfl,hlt,p'⟩,fun x H' y=>?_⟩
  obtain ⟨e,y⟩:=y
  subst e
  exact hs i x σ _ (y xs q) p
 ·have e:i=xs.length:=by omega
  subst e
  exact .inl ⟨⟨xs,q,Qh _⟩,hd σ H p⟩
theorem aCr {K:PySem.W.Frag} {a:Addr} {xs:List V} {g:TG} {tb:TS} {D:Ends} {σ:St} {H:Hp} (Pv:Nat->St->Hp->Prop) (h0:Pv 0 σ H) (hl:∀ i σ H,i<=xs.length->Pv i σ H->SqT K H a xs)
  (hs:∀ i x σ H,xs[i]?=some x->Pv i σ H->g x σ H fun σ2 H2=>tb { D with nx:=Pv (i+1),ct:=Pv (i+1),bk:=D.nx } σ2 H2) (hd:∀ σ H,Pv xs.length σ H->D.nx σ H) :
  ∃ W:Nat->Nat->St->Hp->Prop,(∃ m,W 0 m σ H)/\∀ i m σ H,W i m σ H ->
   ((Itt K a).stop i H/\D.nx σ H)∨((Itt K a).go i H/\∃ N:St->Hp->Prop,(∀ σ' H',N σ' H'->∃ m',m' < m/\W (i+1) m' σ' H')/\∀ x H',(Itt K a).yld i H x H'->g x σ H' fun σ2 H2=>tb { D with nx:=N,ct:=N,bk:=D.nx } σ2 H2):=by
 refine ⟨fun i m σ H=>m=xs.length - i/\i<=xs.length/\Pv i σ H,⟨xs.length,by simp,Jf _,h0⟩,?_⟩
 rintro i m σ H ⟨rfl,hi,p⟩
 have q:=hl i σ H hi p
 by_cases hlt:i < xs.length
 ·refine .inr ⟨⟨xs,xs[i],q,by simp [hlt]⟩,Pv (i+1),fun σ' H' p'=>⟨xs.length - (i+1),by omega,rfl,hlt,p'⟩,fun x H' y=>?_⟩
  obtain ⟨e,y⟩:=y
  subst e
  exact hs i x σ _ (y xs q) p
 ·have e:i=xs.length:=by omega
  subst e
  exact .inl ⟨⟨xs,q,Qh _⟩,hd σ H p⟩
theorem jQ {lo:Int} {n:Nat} {g:TG} {tb:TS} {D:Ends} {σ:St} {H:Hp} (Pv:Nat->St->Hp->Prop) (h0:Pv 0 σ H)
  (hs:∀ i σ H,i < n->Pv i σ H->g (.int (lo+i)) σ H fun σ2 H2=>tb { D with nx:=Pv (i+1),ct:=Pv (i+1),bk:=D.nx } σ2 H2) (hd:∀ σ H,Pv n σ H->D.nx σ H) :
  ∃ W:Nat->Nat->St->Hp->Prop,(∃ m,W 0 m σ H)/\∀ i m σ H,W i m σ H ->
   ((Itr lo n).stop i H/\D.nx σ H)∨((Itr lo n).go i H/\∃ N:St->Hp->Prop,(∀ σ' H',N σ' H'->∃ m',m' < m/\W (i+1) m' σ' H')/\∀ x H',(Itr lo n).yld i H x H'->g x σ H' fun σ2 H2=>tb { D with nx:=N,ct:=N,bk:=D.nx } σ2 H2):=by
 refine ⟨fun i m σ H=>m=n - i/\i<=n/\Pv i σ H,⟨n,by simp,Jf _,h0⟩,?_⟩
 rintro i m σ H ⟨rfl,hi,p⟩
 by_cases hlt:i < n
 ·refine .inr ⟨hlt,Pv (i+1),fun σ' H' p'=>⟨n - (i+1),by omega,rfl,hlt,p'⟩,fun x H' y=>?_⟩
  obtain ⟨e,y⟩:=y
  subst e y
  exact hs i σ _ hlt p
 ·have e:i=n:=by omega
  subst e
  exact .inl ⟨Qh _,hd σ H p⟩
abbrev R2:=V->V->Hp->VK->Prop
def OpR (X:Cx) (f:Value->Value->Sem Value) (r:R2):Prop :=
 ∀ (pins:List (Addr×Obj)) (s:Shared) (σ:St) (H:Hp) (x y:V) (v u:Value) (Q:VK),Inv X pins σ H s->bI x v->bI y u->r x y H Q ->
  wpAny (model X.prog X.w) X.A (f v u) (EP X pins σ Q) X.xe s
def UnR (X:Cx) (f:Value->Sem Value) (r:V->Hp->VK->Prop):Prop :=
 ∀ (pins:List (Addr×Obj)) (s:Shared) (σ:St) (H:Hp) (x:V) (v:Value) (Q:VK),Inv X pins σ H s->bI x v->r x H Q ->
  wpAny (model X.prog X.w) X.A (f v) (EP X pins σ Q) X.xe s
def eY (X:Cx) (f:Value) (r:List V->Hp->VK->Prop):Prop :=
 ∀ (pins:List (Addr×Obj)) (s:Shared) (σ:St) (H:Hp) (xs:List V) (us:List Value) (Q:VK),Inv X pins σ H s->bF xs us->r xs H Q ->
  wpAny (model X.prog X.w) X.A (call f us) (EP X pins σ Q) X.xe s
def aFq (X:Cx) (r:V->Hp->(Bool->Hp->Prop)->Prop):Prop :=
 ∀ (pins:List (Addr×Obj)) (s:Shared) (σ:St) (H:Hp) (x:V) (v:Value) (Q:Bool->Hp->Prop),Inv X pins σ H s->bI x v->r x H Q ->
  wpAny (model X.prog X.w) X.A (truthy v) (TP X pins σ Q) X.xe s
def tOp (r:R2) (ta tb:TE):TE:=fun σ H Q=>ta σ H fun x H1=>tb σ H1 fun y H2=>r x y H2 Q
def tUn (r:V->Hp->VK->Prop) (ta:TE):TE:=fun σ H Q=>ta σ H fun x H1=>r x H1 Q
def rI (C:Int->Int->Prop) (g:Int->Int->V):R2:=fun x y H Q=>∃ i j,x=.int i/\y=.int j/\C i j/\Q (g i j) H
def rI0 (g:Int->Int->V):R2:=fun x y H Q=>∃ i j,x=.int i/\y=.int j/\Q (g i j) H
def rU (g:Int->V):V->Hp->VK->Prop:=fun x H Q=>∃ i,x=.int i/\Q (g i) H
section
variable {X:Cx} {a b c:Expr} {ta tb tc:TE} {pos:Pos}
theorem aDU (ha:PE X a ta) (hb:PE X b tb) {pins:List (Addr×Obj)} {s:Shared} {σ:St} {H:Hp} {R:V->V->Hp->Prop} (I:Inv X pins σ H s)
  (h:ta σ H fun x H1=>tb σ H1 fun y H2=>R x y H2) {Q:Value->Shared->Prop} {f:Value->Value->Sem Value}
  (hf:∀ v u s2 x y H2,Inv X pins σ H2 s2->bI x v->bI y u->R x y H2->wpAny (model X.prog X.w) X.A (f v u) Q X.xe s2) :
  wpAny (model X.prog X.w) X.A (eval a X.env) (fun v s₁=>wpAny (model X.prog X.w) X.A (eval b X.env) (fun u s₂=>wpAny (model X.prog X.w) X.A (f v u) Q X.xe s₂) X.xe s₁) X.xe s:=by
 refine thn (ha pins s σ H _ I h) fun v s1 hx9=>?_
 obtain ⟨x,H1,I1,r1,q1⟩:=hx9
 refine thn (hb pins s1 σ H1 _ I1 q1) fun u s2 hx9=>?_
 obtain ⟨y,H2,I2,r2,q2⟩:=hx9
 exact hf v u s2 x y H2 I2 r1 r2 q2
theorem bD {op:Operator} {r:R2} (ho:OpR X (binaryOp op) r) (ha:PE X a ta) (hb:PE X b tb):PE X (.BinOp a op b pos) (tOp r ta tb):=by
 intro pins s σ H Q I h
 exact wpAny_BinOp (aDU ha hb I h fun v u s2 x y H2 I2 rx ry q=>ho pins s2 σ H2 x y v u Q I2 rx ry q)
theorem yI {op:UnaryOp} {r:V->Hp->VK->Prop} (ho:UnR X (unaryOp op) r) (ha:PE X a ta):PE X (.UnaryOp op a pos) (tUn r ta):=by
 intro pins s σ H Q I h
 refine UnaryOp_ (thn (ha pins s σ H _ I h) fun v s1 hx9=>?_)
 obtain ⟨x,H1,I1,r1,q1⟩:=hx9
 exact ho pins s1 σ H1 x v Q I1 r1 q1
theorem opI {f:Value->Value->Sem Value} {C:Int->Int->Prop} {g:Int->Int->Int}
  (rule:∀ (i j:Int) (t u:Tok) (s:Shared) (Q:Value->Shared->Prop) (E:Value->Shared->Prop),C i j->Q (.int (g i j) s.toks) { s with toks:=s.toks+1 }->wpAny (model X.prog X.w) X.A (f (.int i t) (.int j u)) Q E s) :
  OpR X f (rI C fun i j=>.int (g i j)):=by
 intro pins s σ H x y v u Q I rx ry h
 obtain ⟨i,j,rfl,rfl,hc,q⟩:=h
 obtain ⟨t,rfl⟩:=rx
 obtain ⟨t',rfl⟩:=ry
 exact rule i j t t' s _ _ hc ⟨.int (g i j),H,I.tok _,⟨_,rfl⟩,q⟩
theorem aEH {f:Value->Value->Sem Value} {g:Int->Int->Int}
  (rule:∀ (i j:Int) (t u:Tok) (s:Shared) (Q:Value->Shared->Prop) (E:Value->Shared->Prop),Q (.int (g i j) s.toks) { s with toks:=s.toks+1 }->wpAny (model X.prog X.w) X.A (f (.int i t) (.int j u)) Q E s) :
  OpR X f (rI0 fun i j=>.int (g i j)):=by
 intro pins s σ H x y v u Q I rx ry h
 obtain ⟨i,j,rfl,rfl,q⟩:=h
 obtain ⟨t,rfl⟩:=rx
 obtain ⟨t',rfl⟩:=ry
 exact rule i j t t' s _ _ ⟨.int (g i j),H,I.tok _,⟨_,rfl⟩,q⟩
theorem aCs {f:Value->Value->Sem Value} {g:Int->Int->Bool}
  (rule:∀ (i j:Int) (t u:Tok) (s:Shared) (Q:Value->Shared->Prop) (E:Value->Shared->Prop),Q (.bool (g i j)) s->wpAny (model X.prog X.w) X.A (f (.int i t) (.int j u)) Q E s) :
  OpR X f (rI0 fun i j=>.bl (g i j)):=by
 intro pins s σ H x y v u Q I rx ry h
 obtain ⟨i,j,rfl,rfl,q⟩:=h
 obtain ⟨t,rfl⟩:=rx
 obtain ⟨t',rfl⟩:=ry
 exact rule i j t t' s _ _ ⟨.bl (g i j),H,I,rfl,q⟩
def aFr (i j:Int):Prop:=0 < j/\j < 1073741824
def aDV (i j:Int):Prop:=(-(2^64) < i/\i < 2^64)∨(-(2^64) < j/\j < 2^64)
theorem aDV.ok {i j:Int} (h:aDV i j):IntMulOk i j:=by
 rcases h with ⟨h1,h2⟩ | ⟨h1,h2⟩
 ·exact .of_left (intBits_le_64 h1 h2)
 ·exact .of_right (intBits_le_64 h1 h2)
theorem iH:OpR X (binaryOp .Add) (rI0 fun i j=>.int (i+j)):=aEH fun _ _ _ _ _ _ _ q=>add_int q
theorem xJ:OpR X (binaryOp .Sub) (rI0 fun i j=>.int (i - j)):=aEH fun _ _ _ _ _ _ _ q=>sub_int q
theorem pJ:OpR X (binaryOp .Mult) (rI aDV fun i j=>.int (i*j)):=opI fun _ _ _ _ _ _ _ hc q=>mul_int q hc.ok
theorem yJ:OpR X (binaryOp .FloorDiv) (rI aFr fun i j=>.int (i / j)):=opI fun i j _ _ _ _ _ hc q=>by
 have h1:(0:Int) < j:=hc.1
 have h2:j < 1073741824:=hc.2
 exact floordiv_int (by omega) (by rw [Zl i (by omega)]; exact q) (.inl (PyProof.noPylong_small (by omega)))
theorem kE:OpR X (binaryOp .Mod) (rI (fun _ j=>0 < j) fun i j=>.int (i % j)):=opI fun i j _ _ _ _ _ hc q=>by
 have h1:(0:Int) < j:=hc
 exact mod_int' (by omega) (by rw [Int.fmod_eq_emod_of_nonneg i (by omega)]; exact q)
theorem unI {f:Value->Sem Value} {g:Int->Int}
  (rule:∀ (i:Int) (t:Tok) (s:Shared) (Q:Value->Shared->Prop) (E:Value->Shared->Prop),Q (.int (g i) s.toks) { s with toks:=s.toks+1 }->wpAny (model X.prog X.w) X.A (f (.int i t)) Q E s) :
  UnR X f (rU fun i=>.int (g i)):=by
 intro pins s σ H x v Q I rx h
 obtain ⟨i,rfl,q⟩:=h
 obtain ⟨t,rfl⟩:=rx
 exact rule i t s _ _ ⟨.int (g i),H,I.tok _,⟨_,rfl⟩,q⟩
theorem tK:UnR X (unaryOp .USub) (rU fun i=>.int (-i)):=unI fun _ _ _ _ _ q=>neg_int q
def aEI:V->V->Bool
 | .non,.non=>true | .non,.int _=>true | .int _,.non=>true | .non,.bl _=>true | .bl _,.non=>true | .non,.str _=>true | .str _,.non=>true
 | .int _,.int _=>true | .bl _,.bl _=>true | .str _,.str _=>true | .byt _,.byt _=>true
 | .int _,.str _=>true | .str _,.int _=>true | .bl _,.str _=>true | .str _,.bl _=>true
 | _,_=>false
def rEq:R2:=fun x y H Q=>aEI x y=true/\Q (.bl (decide (x=y))) H
def rNe:R2:=fun x y H Q=>aEI x y=true/\Q (.bl (!decide (x=y))) H
theorem yK {i j:Int}:decide (V.int i=V.int j)=(i==j):=by
 rw [Jl]
 simp
theorem aA1 {i j:Bool}:decide (V.bl i=V.bl j)=(i==j):=by
 rw [Jl]
 simp
theorem yL {i j:Str}:decide (V.str i=V.str j)=(i==j):=by
 rw [Jl]
 simp
theorem yM {i j:Array UInt8}:decide (V.byt i=V.byt j)=(i.toList==j.toList):=by
 rw [Jl]
 cases i
 cases j
 simp
theorem cE {pins:List (Addr×Obj)} {σ:St} {H:Hp} {s:Shared} {Q:VK} {k k':Bool} (I:Inv X pins σ H s) (q:Q (.bl k) H) (e:k=k'):EP X pins σ Q (.bool k') s:=by
 subst e
 exact ⟨.bl k,H,I,rfl,q⟩
theorem pK:OpR X (compareOp .Eq) rEq:=by
 intro pins s σ H x y v u Q I rx ry h
 obtain ⟨hs,q⟩:=h
 cases x with
 | non =>
  cases rx
  cases y with
  | non=>cases ry; exact PySem.EqNone.eq_none_none (cE I q (by simp))
  | bl j=>cases ry; exact PySem.EqNone.eq_none_bool (cE I q (by simp))
  | int j=>obtain ⟨t',rfl⟩:=ry; exact PySem.EqNone.eq_none_int (cE I q (by simp))
  | str j=>obtain ⟨t',rfl⟩:=ry; exact PySem.EqNone.eq_none_str (cE I q (by simp))
  | _=>exact absurd (show false=true from hs) Qz
 | bl i =>
  cases rx
  cases y with
  | non=>cases ry; exact PySem.EqNone.eq_bool_none (cE I q (by simp))
  | bl j=>cases ry; exact eq_bool (cE I q aA1)
  | str j=>obtain ⟨t',rfl⟩:=ry; exact PySem.EqMixed.eq_bool_str (cE I q (by simp))
  | _=>exact absurd (show false=true from hs) Qz
 | int i =>
  obtain ⟨t,rfl⟩:=rx
  cases y with
  | non=>cases ry; exact PySem.EqNone.eq_int_none (cE I q (by simp))
  | int j=>obtain ⟨t',rfl⟩:=ry; exact eq_int (cE I q yK)
  | str j=>obtain ⟨t',rfl⟩:=ry; exact PySem.EqMixed.eq_int_str (cE I q (by simp))
  | _=>exact absurd (show false=true from hs) Qz
 | str i =>
  obtain ⟨t,rfl⟩:=rx
  cases y with
  | non=>cases ry; exact PySem.EqNone.eq_str_none (cE I q (by simp))
  | bl j=>cases ry; exact PySem.EqMixed.eq_str_bool (cE I q (by simp))
  | int j=>obtain ⟨t',rfl⟩:=ry; exact PySem.EqMixed.eq_str_int (cE I q (by simp))
  | str j=>obtain ⟨t',rfl⟩:=ry; exact eq_str (cE I q yL)
  | _=>exact absurd (show false=true from hs) Qz
 | byt i =>
  obtain ⟨t,rfl⟩:=rx
  cases y with
  | byt j=>obtain ⟨t',rfl⟩:=ry; exact PySem.W.eq_bytes (cE I q yM)
  | _=>exact absurd (show false=true from hs) Qz
 | _=>cases y <;> exact absurd (show false=true from hs) Qz
theorem vB:OpR X (compareOp .NotEq) rNe:=by
 intro pins s σ H x y v u Q I rx ry h
 obtain ⟨hs,q⟩:=h
 cases x with
 | non =>
  cases rx
  cases y with
  | non=>cases ry; exact PySem.EqNone.ne_none_none (cE I q (by simp))
  | bl j=>cases ry; exact PySem.EqNone.ne_none_bool (cE I q (by simp))
  | int j=>obtain ⟨t',rfl⟩:=ry; exact PySem.EqNone.ne_none_int (cE I q (by simp))
  | str j=>obtain ⟨t',rfl⟩:=ry; exact PySem.EqNone.ne_none_str (cE I q (by simp))
  | _=>exact absurd (show false=true from hs) Qz
 | bl i =>
  cases rx
  cases y with
  | non=>cases ry; exact PySem.EqNone.ne_bool_none (cE I q (by simp))
  | bl j=>cases ry; exact ne_bool (cE I q (congrArg not aA1))
  | str j=>obtain ⟨t',rfl⟩:=ry; exact PySem.EqMixed.ne_bool_str (cE I q (by simp))
  | _=>exact absurd (show false=true from hs) Qz
 | int i =>
  obtain ⟨t,rfl⟩:=rx
  cases y with
  | non=>cases ry; exact PySem.EqNone.ne_int_none (cE I q (by simp))
  | int j=>obtain ⟨t',rfl⟩:=ry; exact ne_int (cE I q (congrArg not yK))
  | str j=>obtain ⟨t',rfl⟩:=ry; exact PySem.EqMixed.ne_int_str (cE I q (by simp))
  | _=>exact absurd (show false=true from hs) Qz
 | str i =>
  obtain ⟨t,rfl⟩:=rx
  cases y with
  | non=>cases ry; exact PySem.EqNone.ne_str_none (cE I q (by simp))
  | bl j=>cases ry; exact PySem.EqMixed.ne_str_bool (cE I q (by simp))
  | int j=>obtain ⟨t',rfl⟩:=ry; exact PySem.EqMixed.ne_str_int (cE I q (by simp))
  | str j=>obtain ⟨t',rfl⟩:=ry; exact ne_str (cE I q (congrArg not yL))
  | _=>exact absurd (show false=true from hs) Qz
 | byt i =>
  obtain ⟨t,rfl⟩:=rx
  cases y with
  | byt j=>obtain ⟨t',rfl⟩:=ry; exact PySem.W.ne_bytes (cE I q (congrArg not yM))
  | _=>exact absurd (show false=true from hs) Qz
 | _=>cases y <;> exact absurd (show false=true from hs) Qz
theorem aA2:OpR X (compareOp .Lt) (rI0 fun i j=>.bl (decide (i < j))):=aCs fun _ _ _ _ _ _ _ q=>lt_int q
theorem sH:OpR X (compareOp .LtE) (rI0 fun i j=>.bl (decide (i<=j))):=aCs fun _ _ _ _ _ _ _ q=>le_int q
theorem oM:OpR X (compareOp .Gt) (rI0 fun i j=>.bl (decide (j < i))):=aCs fun _ _ _ _ _ _ _ q=>gt_int q
theorem aA3:OpR X (compareOp .GtE) (rI0 fun i j=>.bl (decide (j<=i))):=aCs fun _ _ _ _ _ _ _ q=>ge_int q
theorem bJ (b:Expr) {op:CmpOp} (h:op≠.In:=by decide) (h2:op≠.NotIn:=by decide):behindInMarks op b=false:=by
 have e1:(op==CmpOp.In)=false:=by cases op <;> first | rfl | exact absurd rfl h
 have e2:(op==CmpOp.NotIn)=false:=by cases op <;> first | rfl | exact absurd rfl h2
 cases b <;> simp [behindInMarks,e1,e2]
theorem jF {op:CmpOp} {r:R2} (ho:OpR X (compareOp op) r) (ha:PE X a ta) (hb:PE X b tb) (hm:behindInMarks op b=false):PE X (.Compare a [op] [b] pos) (tOp r ta tb):=by
 intro pins s σ H Q I h
 exact wpAny_Compare1 (aDU ha hb I h fun v u s2 x y H2 I2 rx ry q=>ho pins s2 σ H2 x y v u Q I2 rx ry q) hm
def aEJ (t:TE):TT:=fun σ H Q=>t σ H fun x H'=>∃ k,x=.bl k/\Q k H'
theorem aW {op:CmpOp} {r:R2} (ho:OpR X (compareOp op) r) (ha:PE X a ta) (hb:PE X b tb) (hm:behindInMarks op b=false):PT X (.Compare a [op] [b] pos) (aEJ (tOp r ta tb)):=by
 intro pins s σ H Q I h
 refine wpAny_isTrue_Compare1 (thn (ha pins s σ H _ I h) fun v s1 ⟨x,H1,I1,r1,q1⟩=>thn (hb pins s1 σ H1 _ I1 q1) fun u s2 ⟨y,H2,I2,r2,q2⟩ =>
  thn (ho pins s2 σ H2 x y v u _ I2 r1 r2 q2) fun c s3 ⟨z,H3,I3,r3,k,e,q3⟩=>?_) hm
 subst e
 cases r3
 exact wpAny_truthy_bool ⟨H3,I3,q3⟩
def aDW (r r':R2) (ta tb tc:TE):TE:=fun σ H Q=>ta σ H fun x H1=>tb σ H1 fun y H2=>r x y H2 fun z H3=>∃ k,z=.bl k /\
 (if k=true then tc σ H3 fun w' H4=>r' y w' H4 Q else Q (.bl false) H3)
theorem vC {op op':CmpOp} {r r':R2} (ho:OpR X (compareOp op) r) (ho':OpR X (compareOp op') r') (ha:PE X a ta) (hb:PE X b tb) (hc:PE X c tc)
  (hm:lastMarks [op,op'] [b,c]=false:=by with_unfolding_all rfl):PE X (.Compare a [op,op'] [b,c] pos) (aDW r r' ta tb tc):=by
 intro pins s σ H Q I h
 refine Compare_chain (thn (ha pins s σ H _ I h) fun v s1 ⟨x,H1,I1,r1,q1⟩=>chain_link (thn (hb pins s1 σ H1 _ I1 q1) fun u s2 ⟨y,H2,I2,r2,q2⟩ =>
  thn (ho pins s2 σ H2 x y v u _ I2 r1 r2 q2) fun d s3 ⟨z,H3,I3,r3,k,e,q3⟩=>?_)) hm
 subst e
 cases r3
 refine wpAny_truthy_bool ?_
 cases k with
 | false=>exact ite_ff ⟨.bl false,H3,I3,rfl,q3⟩
 | true=>exact ite_tt (chain_last (thn (hc pins s3 σ H3 _ I3 q3) fun w' s4 ⟨z',H4,I4,r4,q4⟩=>ho' pins s4 σ H4 y z' u w' Q I4 r2 r4 q4))
def aEK (K:PySem.W.Frag) (x:V) (H:Hp) (k:Bool):Prop :=
 match x with
 | .non=>k=false
 | .bl b=>k=b
 | .int i=>k=(i !=0)
 | .str y=>y.length<=sizeLine/\k=((y.length:Int) !=0)
 | .byt y=>y.size<=sizeLine/\k=((y.size:Int) !=0)
 | .ref p=>(∃ xs,SqL K H p xs/\k=!xs.isEmpty)∨(∃ xs,SqT K H p xs/\k=!xs.isEmpty)∨∃ kvs,H p=some (.dK kvs)/\k=!kvs.isEmpty
 | _=>False
theorem xK {κ:Type} {kvs:List (κ×V)} {vs:List (κ×Value)} (r:KV kvs vs):(!vs.isEmpty)=!kvs.isEmpty:=by
 cases r <;> rfl
theorem pL {xs:List V} {its:List Value} (r:bF xs its):(!its.toArray.isEmpty)=!xs.isEmpty:=by
 cases r <;> simp
theorem pM:(sizeLine:Nat) < 2^63:=by rw [sizeLine_eq]; decide
theorem aDX:aFq X (fun x H Q=>∃ k,aEK X.K x H k/\Q k H):=by
 intro pins s σ H x v Q I rx h
 obtain ⟨k,e,q⟩:=h
 have hl:=pM
 have hs:sizeLine=16777216:=sizeLine_eq
 cases x with
 | non =>
  cases rx
  have e':k=false:=e
  subst e'
  exact truthy_none ⟨H,I,q⟩
 | bl b =>
  cases rx
  have e':k=b:=e
  subst e'
  exact wpAny_truthy_bool ⟨H,I,q⟩
 | int i =>
  obtain ⟨t,rfl⟩:=rx
  have e':k=(i !=0):=e
  subst e'
  exact PySem.P.truthy_int ⟨H,I,q⟩
 | str y =>
  obtain ⟨t,rfl⟩:=rx
  obtain ⟨hy,e'⟩:y.length<=sizeLine/\k=((y.length:Int) !=0):=e
  subst e'
  exact PySem.P.truthy_str (by omega) ⟨H,I.tok _,q⟩
 | byt y =>
  obtain ⟨t,rfl⟩:=rx
  obtain ⟨hy,e'⟩:y.size<=sizeLine/\k=((y.size:Int) !=0):=e
  subst e'
  exact PySem.W.truthy_bytes (by omega) ⟨H,I.tok _,q⟩
 | ref p =>
  cases rx
  have e':(∃ xs,SqL X.K H p xs/\k=!xs.isEmpty)∨(∃ xs,SqT X.K H p xs/\k=!xs.isEmpty)∨∃ kvs,H p=some (.dK kvs)/\k=!kvs.isEmpty:=e
  rcases e' with ⟨xs,hx,e'⟩ | ⟨xs,hx,e'⟩ | ⟨kvs,hx,e'⟩
  ·subst e'
   obtain ⟨its,r,pl,hz⟩:=I.list hx
   have hlen:=r.length
   exact wpAny_truthy_list pl.isList (by simp only [Qj]; omega) ⟨H,I.tok _,by rw [pL r]; exact q⟩
  ·subst e'
   obtain ⟨its,r,pl,hz⟩:=I.tuple hx
   have hlen:=r.length
   exact truthy_tuple pl (by simp only [Qj]; omega) ⟨H,I.tok _,by rw [pL r]; exact q⟩
  ·subst e'
   obtain ⟨hz,hS,vs,r,m⟩:kvs.length<=sizeLine/\(p==sysModules)=false/\∃ vs,KV kvs vs/\s.heap.DictOf (bG X.prog X.w) p vs:=I.hok p _ hx
   have hlen:kvs.length=vs.length:=Paired.length r
   exact wpAny_truthy_dict hS m (by omega) ⟨H,I.tok _,by rw [xK r]; exact q⟩
 | _=>exact (show False from e).elim
theorem vD (ha:PE X a ta) (he:∀ whole,isTrue a X.env whole=(do let v<-whole; standAt a.pos; holding [v] (truthy v))) :
  PT X a (fun σ H Q=>ta σ H fun x H'=>∃ k,aEK X.K x H' k/\Q k H'):=by
 intro pins s σ H Q I h
 refine isTrue_plain (thn (ha pins s σ H _ I h) fun v s1 hx9=>?_) (he _)
 obtain ⟨x,H1,I1,r1,q1⟩:=hx9
 exact aDX pins s1 σ H1 x v Q I1 r1 q1
theorem jR {x:V} {us:List Value} (r:bF [x] us):∃ u,us = [u]/\bI x u:=by
 cases r with
 | cons r1 r2=>cases r2; exact ⟨_,rfl,r1⟩
theorem lX {x y:V} {us:List Value} (r:bF [x,y] us):∃ u w',us = [u,w']/\bI x u/\bI y w':=by
 cases r with
 | cons r1 r2 =>
  cases r2 with
  | cons r3 r4=>cases r4; exact ⟨_,_,rfl,r1,r3⟩
theorem aAc (hc:X.calm=true):eY X (.builtin "max") (fun xs H Q=>∃ i j,xs = [.int i,.int j]/\Q (.int (if j > i then j else i)) H):=by
 intro pins s σ H xs us Q I r h
 obtain ⟨i,j,rfl,q⟩:=h
 obtain ⟨u,w',rfl,⟨t,rfl⟩,⟨t',rfl⟩⟩:=lX r
 refine max_two_ints (I.ok.hd hc) fun h' tk k=>⟨_,H,I.kept k,?_,q⟩
 by_cases hj:j > i
 ·rw [if_pos hj,if_pos hj]; exact ⟨_,rfl⟩
 ·rw [if_neg hj,if_neg hj]; exact ⟨_,rfl⟩
theorem aAd (hc:X.calm=true):eY X (.builtin "min") (fun xs H Q=>∃ i j,xs = [.int i,.int j]/\Q (.int (if j < i then j else i)) H):=by
 intro pins s σ H xs us Q I r h
 obtain ⟨i,j,rfl,q⟩:=h
 obtain ⟨u,w',rfl,⟨t,rfl⟩,⟨t',rfl⟩⟩:=lX r
 refine min_two_ints (I.ok.hd hc) fun h' tk k=>⟨_,H,I.kept k,?_,q⟩
 by_cases hj:j < i
 ·rw [if_pos hj,if_pos hj]; exact ⟨_,rfl⟩
 ·rw [if_neg hj,if_neg hj]; exact ⟨_,rfl⟩
end
structure ObjM (h:Heap) (x dx C:Addr) (mA:Str->Option Value):Prop where
 obj:h.get? x=some (PySem.W.instObj C dx)
 ns:h.Ns1 dx mA
 ne:dx≠x
section
variable {prog:Program} {w:World} {A:Around} {E:Value->Shared->Prop} {s:Shared} {K:PySem.W.Frag} {x dx C f:Addr} {mA:Str->Option Value} {name:Str} {v:Value}
end
theorem oS.some_of {v:V} {o:Option Value} (r:oS (some v) o):∃ u,o=some u/\bI v u:=by
 cases o with
 | none=>exact (show False from r).elim
 | some u=>exact ⟨u,rfl,r⟩
section
variable {P:Program} {w:World} {H H':Hp} {h h':Heap} {a C dx:Addr} {fs fs':List (Str×V)}
end
structure Cls (K:PySem.W.Frag) (C:Addr):Prop where
 pg:PySem.W.plainGet K C Str.empty=true
 hd:PySem.W.hasDictIn K C=true
 po:PySem.W.plainOver K C=true
 sa:PySem.W.findIn K (.ref C) "__setattr__" = some (some (.builtin "object.__setattr__"))
theorem Cls.get {K:PySem.W.Frag} {C:Addr} (c:Cls K C) (f:Str):PySem.W.plainGet K C f=true:=c.pg
def aA4 (K:PySem.W.Frag) (C:Addr) (f:Str):Prop:=PySem.W.findIn K (.ref C) f=some none
theorem aA4.taker {K:PySem.W.Frag} {C:Addr} {f:Str} (n:aA4 K C f):PySem.W.takerIn K C f=some none:=by
 unfold PySem.W.takerIn
 rw [show PySem.W.findIn K (.ref C) f=some none from n]
 rfl
structure Con (K:PySem.W.Frag) (C:Addr) (f:Str) (v:V) (u:Value):Prop where
 at_:PySem.W.findIn K (.ref C) f=some (some u)
 rel:bI v u
 get:PySem.W.specialIn K u "__get__" = some none
 cp:PySem.W.copiedNames.contains f=false
structure Meth (K:PySem.W.Frag) (C:Addr) (m:Str) (f:Addr):Prop where
 at_:PySem.W.findIn K (.ref C) m=some (some (.ref f))
 fn:PySem.W.isFn K (.ref f)=true
 kp:PySem.W.keepIn K (.ref f)=true
section
variable {X:Cx} {pins:List (Addr×Obj)} {σ:St} {H:Hp} {s:Shared} {a C dx:Addr} {fs:List (Str×V)} {f:Str} {v:V} {A:Around} {E:Value->Shared->Prop}
end
def aEL (X:Cx) (op:Operator) (rd:V->V->Hp->VK->Prop):Prop :=
 ∀ (pins:List (Addr×Obj)) (s:Shared) (σ:St) (H:Hp) (x y:V) (u v:Value) (Q:VK),Inv X pins σ H s->bI x u->bI y v->rd x y H Q->wpAny (model X.prog X.w) X.A (inplaceOp op u v) (EP X pins σ Q) X.xe s
section
variable {X:Cx} {o e value:Expr} {f:Str} {pos pos' tpos:Pos} {ta tv:TE}
def aFs:V->V->Hp->VK->Prop:=fun x y H Q=>∃ i j,x=.int i/\y=.int j/\Q (.int (i - j)) H
theorem aDY:aEL X .Sub aFs:=by
 rintro pins s σ H x y u v Q I rx ry ⟨i,j,rfl,rfl,q⟩
 obtain ⟨t,rfl⟩:=(show ∃ t,u=Value.int i t from rx)
 obtain ⟨t',rfl⟩:=(show ∃ t',v=Value.int j t' from ry)
 exact PyProof.Rows.isub_int ⟨.int (i - j),H,I.tok _,⟨_,rfl⟩,q⟩
end
section
variable {X:Cx} {pins:List (Addr×Obj)} {σ:St} {H:Hp} {s:Shared} {A:Around} {E:Value->Shared->Prop} {Q:Value->Shared->Prop} {c:Value} {b:Bool}
inductive TyOf (K:PySem.W.Frag) (H:Hp):V->Value->Prop where
 | non:TyOf K H .non (.type "NoneType")
 | bl (x:Bool):TyOf K H (.bl x) (.type "bool")
 | int (i:Int):TyOf K H (.int i) (.type "int")
 | str (x:Str):TyOf K H (.str x) (.type "str")
 | flt (x:UInt64):TyOf K H (.flt x) (.type "float")
 | lst {a:Addr} {xs:List V} (e:H a=some (.lst xs)):TyOf K H (.ref a) (.type "list")
 | frz {a:Addr} {o:Obj} {xs:List V} (e:H a=some (.frz o (.lst xs))):TyOf K H (.ref a) (.type "list")
 | tup {a:Addr} {xs:List V} (e:H a=some (.tup xs)):TyOf K H (.ref a) (.type "tuple")
 | dK {a:Addr} {kvs:List (Key×V)} (e:H a=some (.dK kvs)):TyOf K H (.ref a) (.type "dict")
 | dT {a:Addr} {kvs:List (List Key×V)} (e:H a=some (.dT kvs)):TyOf K H (.ref a) (.type "dict")
 | ins {a C dx:Addr} {fs:List (Str×V)} (e:H a=some (.ins C dx fs)) (cl:Cls K C) (ha:PySem.W.findIn K (.ref C) "__class__" = some (some (.builtin "object.__class__")))
   (hn:PySem.W.specialIn K (.builtin "object.__class__") "__get__" = some (some (.builtin "getset_descriptor.__get__"))) (htk:PySem.W.takesIn K (.builtin "object.__class__")=some true)
   (hm:PySem.W.mroIn K C (.type "object")=some true):TyOf K H (.ref a) (.ref C)
end
structure Room (k:Nat) (A:Around):Prop where
 hd:A.handled=none
 dp:A.depth+3*k+5 < recursionLimit
 un:A.units+16*k+200 < cLine
 gd:A.guards=some []
theorem Room.mono {j k:Nat} {A:Around} (r:Room k A) (h:j<=k):Room j A:=⟨r.hd,by have:=r.dp; omega,by have:=r.un; omega,r.gd⟩
theorem Room.deeper {k:Nat} {A:Around} (r:Room (k+1) A) (env:Env):Room k (A.deeper env) :=
 ⟨r.hd,by have:=r.dp; show A.depth+1+3*k+5 < _; omega,by have:=r.un; show A.units+3+16*k+200 < _; omega,r.gd⟩
theorem Room.in1 {k:Nat} {A:Around} (r:Room (k+1) A):Room k A.in1 :=
 ⟨r.hd,by have:=r.dp; show A.depth+3*k+5 < _; omega,by have:=r.un; show A.units+1+16*k+200 < _; omega,r.gd⟩
theorem Room.depth {k:Nat} {A:Around} (r:Room k A):A.depth < recursionLimit:=by have:=r.dp; omega
theorem Room.units {k:Nat} {A:Around} (r:Room k A):A.units+64 < cLine:=by have:=r.un; omega
abbrev aFt:TA:=fun _ H Q=>Q [] H
abbrev aEM (ta:TE) (tr:TA):TA:=fun σ H Q=>ta σ H fun x H1=>tr σ H1 fun xs H2=>Q (x::xs) H2
section
variable {X:Cx} {e:Expr} {es:List Expr} {te:TE} {t:TA} {pos:Pos}
theorem aD:PA X [] aFt:=fun _ _ _ _ H Q I h=>Calls.spliced_nil ⟨[],H,I,.nil,h⟩
theorem aA (ha:PE X e te) (hr:PA X es t) (hs:starEach (e::es) X.env=(false,eval e X.env)::starEach es X.env:=by rfl):PA X (e::es) (aEM te t):=by
 intro pos pins s σ H Q I h
 rw [hs]
 show wpAny _ _ (spliced ((false,eval e X.env)::backTo pos (starEach es X.env))) _ _ s
 refine Calls.spliced_cons (thn (ha pins s σ H _ I h) fun u s1 hx9=>?_)
 obtain ⟨x,H1,I1,r1,q1⟩:=hx9
 refine thn (hr pos pins s1 σ H1 _ I1 q1) fun us s2 hx9=>?_
 obtain ⟨xs,H2,I2,r2,q2⟩:=hx9
 exact ⟨x::xs,H2,I2,.cons r1 r2,q2⟩
def aFu (t:TA):TE:=fun σ H Q=>t σ H fun xs H1=>xs.length<=sizeLine/\∀ p,H1 p=none->Q (.ref p) (upd H1 p (.tup xs))
def aFv (t:TA):TE:=fun σ H Q=>t σ H fun xs H1=>xs.length<=sizeLine/\∀ p,H1 p=none->Q (.ref p) (upd H1 p (.lst xs))
theorem eE {x1} (h:PA X es t):PE X (.Tuple es x1 pos) (aFu t):=by
 intro pins s σ H Q I hq
 refine wpAny_Tuple_spliced (thn (h pos pins s σ H _ I hq) fun us s1 ⟨xs,H1,I1,r,z,q⟩=>⟨by rw [<- r.length]; exact z,?_⟩)
 have hf:H1 s1.heap.objs.size=none:=I1.hok.fresh (Qh _)
 refine ⟨.ref s1.heap.objs.size,upd H1 s1.heap.objs.size (.tup xs),I1.laid (t':=s1.toks) (fun b u e=>Qb _ e) (Qh _) ?_,rfl,q _ hf⟩
 exact ⟨z,us,0,r,Qn _ rfl⟩
theorem fG (h:PA X es t):PE X (.List es pos) (aFv t):=by
 intro pins s σ H Q I hq
 refine wpAny_List_spliced (thn (h pos pins s σ H _ I hq) fun us s1 ⟨xs,H1,I1,r,z,q⟩=>⟨by rw [<- r.length]; exact z,?_⟩)
 have hf:H1 s1.heap.objs.size=none:=I1.hok.fresh (Qh _)
 refine ⟨.ref s1.heap.objs.size,upd H1 s1.heap.objs.size (.lst xs),I1.laid (t':=s1.toks) (fun b u e=>Qb _ e) (Qh _) ?_,rfl,q _ hf⟩
 exact ⟨z,us,0,r,Qn _ rfl⟩
end
abbrev Sp:=List V->Hp->VK->XK->Prop
abbrev CXT:=List Env->Hp->Shared->XK->Value->Shared->Prop
structure Env0 (P:Program) (w:World) (K:PySem.W.Frag) (mg:Str->Option Value) (base:Heap) (A:Around) (outer:List Env) (s:Shared) (H:Hp):Prop where
 frames:A.frames=some outer
 mod:Mod K mg base
 bs:∀ b o,base.get? b=some o->s.heap.get? b=some o/\H b=none
 bsz:base.objs.size<=s.heap.objs.size
 funs:s.heap.FunFrames base outer
 frf:∀ b∈frs outer,H b=none
 hok:HOk P w H s.heap
 bare:AllBare s.gens
def CE (outer:List Env) (P:Program) (w:World) (H:Hp) (s:Shared) (Q:VK) (u:Value) (s':Shared):Prop :=
 ∃ v H',s'.os=s.os/\AllBare s'.gens/\Un (frs outer) [] H H' s.heap s'.heap/\HOk P w H' s'.heap/\bI v u/\Q v H'
def CR (CX:CXT) (outer:List Env) (P:Program) (w:World) (H:Hp) (s:Shared) (Q:VK) (E:XK) (r:Result) (s':Shared):Prop :=
 match r with
 | .ok (.ret u)=>CE outer P w H s Q u s'
 | .ok _=>False
 | .error e=>CX outer H s E e s'
structure FnOk (P:Program) (w:World) (K:PySem.W.Frag) (mg:Str->Option Value) (base:Heap) (CX:CXT) (k:Nat) (f:Addr) (fd:FuncData) (ps:List Str) (sp:Sp):Prop where
 len:∀ vs H Q E,sp vs H Q E->vs.length=ps.length
 run:∀ (A:Around) (outer:List Env) (s:Shared) (H:Hp) (args:Args) (us:List Value) (vs:List V) (Q:VK) (E:XK),Room k A->Env0 P w K mg base A outer s H->BindsTo s fd args (ps.zip us)->bF vs us->sp vs H Q E ->
  codeAny (model P w) A (.call (.ref f) args) (CR CX outer P w H s Q E) s
theorem FnOk.mono {P:Program} {w:World} {K:PySem.W.Frag} {mg:Str->Option Value} {base:Heap} {CX:CXT} {j k:Nat} {f:Addr} {fd:FuncData} {ps:List Str} {sp:Sp} (F:FnOk P w K mg base CX j f fd ps sp) (h:j<=k) :
  FnOk P w K mg base CX k f fd ps sp:=⟨F.len,fun A outer s H args us vs Q E hr=>F.run A outer s H args us vs Q E (hr.mono h)⟩
theorem FnOk.imp {P:Program} {w:World} {K:PySem.W.Frag} {mg:Str->Option Value} {base:Heap} {CX:CXT} {k:Nat} {f:Addr} {fd:FuncData} {ps:List Str} {sp sp':Sp} (F:FnOk P w K mg base CX k f fd ps sp)
  (h:∀ vs H Q E,sp' vs H Q E->sp vs H Q E):FnOk P w K mg base CX k f fd ps sp' :=
 ⟨fun vs H Q E q=>F.len vs H Q E (h _ _ _ _ q),fun A outer s H args us vs Q E hr he hb hv hs=>F.run A outer s H args us vs Q E hr he hb hv (h _ _ _ _ hs)⟩
theorem Env0.in1 {P:Program} {w:World} {K:PySem.W.Frag} {mg:Str->Option Value} {base:Heap} {A:Around} {outer:List Env} {s:Shared} {H:Hp} (e:Env0 P w K mg base A outer s H) :
  Env0 P w K mg base A.in1 outer s H:=⟨e.frames,e.mod,e.bs,e.bsz,e.funs,e.frf,e.hok,e.bare⟩
section
variable {X:Cx} {pins:List (Addr×Obj)} {σ:St} {H:Hp} {s s':Shared}
theorem Inv.env0 (I:Inv X pins σ H s):Env0 X.prog X.w X.K X.mg X.base X.A X.stack s H :=
 ⟨I.ok.frames,I.ok.mod,I.bs,Qt I.ok.bsz I.sz,I.stack,I.stkFree,I.hok,I.bare⟩
theorem Inv.after {Q:VK} {u:Value} (I:Inv X pins σ H s) (h:CE X.stack X.prog X.w H s Q u s'):EP X pins σ Q u s':=by
 obtain ⟨v,H',os,bare,un,hok,r,q⟩:=h
 obtain ⟨hh,g,d,t,os'⟩:=s'
 obtain rfl:os'=s.os:=os
 exact ⟨v,H',I.call (h':=hh) (g':=g) (d':=d) (t':=t) (ch:=[]) un hok bare (fun b z=>absurd z (by simp)),r,q⟩
end
def aDv (sp:Sp) (dvs:List V) (E:XK) (t:TA):TE:=fun σ H Q=>t σ H fun vs H1=>sp (vs++dvs) H1 Q E
def sI (K:PySem.W.Frag) (fd:FuncData) (ps:List Str) (ds:List Value):Prop :=
 ∀ (s:Shared) (us:List Value),K.In s.heap->(us++ds).length=ps.length->BindsTo s fd ⟨us,[]⟩ (ps.zip (us++ds))
theorem sI.all {K:PySem.W.Frag} {fd:FuncData} {ps:List Str} (h:∀ us:List Value,us.length=ps.length->bindArgs fd ⟨us,[]⟩=pure (ps.zip us)):sI K fd ps []:=fun s us _ hl=>by
 rw [Jw] at hl ⊢
 exact .of_eq (h us hl)
def xL (CX:CXT) (X:Cx) (E:XK):Prop:=∀ (pins:List (Addr×Obj)) (σ:St) (H:Hp) (s:Shared) (e:Value) (s':Shared),Inv X pins σ H s->CX X.stack H s E e s'->X.xe e s'
section
variable {X:Cx} {CX:CXT} {k:Nat} {f C:Addr} {fd:FuncData} {ps:List Str} {sp:Sp} {dvs:List V} {ds:List Value} {E:XK} {x m:Str} {p pos apos:Pos} {e o:Expr} {es:List Expr} {ta:TE} {t:TA}
theorem aDZ {pins:List (Addr×Obj)} {σ:St} {H:Hp} {s:Shared} {Q:VK} {us:List Value} {vs:List V} (F:FnOk X.prog X.w X.K X.mg X.base CX k f fd ps sp) (hr:Room k X.A) (hb:sI X.K fd ps ds) (hd:bF dvs ds) (hx:xL CX X E)
  (I:Inv X pins σ H s) (r:bF vs us) (h:sp (vs++dvs) H Q E):wpAny (model X.prog X.w) X.A (call (.ref f) us) (EP X pins σ Q) X.xe s:=by
 have r2:bF (vs++dvs) (us++ds):=r.append hd
 have hl:(us++ds).length=ps.length:=by rw [<- r2.length]; exact F.len _ _ _ _ h
 refine wpAny_call (codeAny_mono (F.run X.A X.stack s H ⟨us,[]⟩ (us++ds) (vs++dvs) Q E hr I.env0 (hb s us I.kIn hl) r2 h) fun r s' hq=>?_)
 cases r with
 | error e=>exact hx pins σ H s e s' I hq
 | ok fl =>
  cases fl with
  | ret u=>exact I.after hq
  | next=>exact False.elim hq
  | brk=>exact False.elim hq
  | cont=>exact False.elim hq
theorem aCt (F:FnOk X.prog X.w X.K X.mg X.base CX k f fd ps sp) (hr:Room k X.A) (hg:Gl X x) (hm:X.mg x=some (.ref f)) (hk:PySem.W.keepIn X.K (.ref f)=true) (hb:sI X.K fd ps ds) (hd:bF dvs ds) (hx:xL CX X E)
  (ha:PA X (e::es) t) (hdb:(x==("__debug__" : Str))=false:=by decide) (he:starEach (e::es) X.env=(false,eval e X.env)::starEach es X.env:=by rfl) (hpl:(backTo pos (starEach es X.env)).any (·.1)=false:=by rfl) :
  PE X (.Call (.Name x p) (e::es) [] pos) (aDv sp dvs E t):=by
 intro pins s σ H Q I h
 refine wpAny_Call_Name_kw (yG I hg hm ?_ hdb)
 refine PySem.W.callWith_K (h₀:=X.base) I.ok.mod.kin hk (thn (ha pos pins s σ H _ I h) fun us s1 ⟨vs,H1,I1,r,q⟩=>⟨I1.kIn,?_⟩) he hpl
 exact aDZ F hr hb hd hx I1 r q
structure Mk (K:PySem.W.Frag) (C f:Addr):Prop where
 makes:PySem.W.makesIn K C=true
 init:PySem.W.findIn K (.ref C) "__init__" = some (some (.ref f))
 fn:PySem.W.isFn K (.ref f)=true
 kp:PySem.W.keepIn K (.ref C)=true
end
section
variable {X:Cx} {CX:CXT} {k:Nat} {f C:Addr} {fd:FuncData} {ps ks:List Str} {sp:Sp} {E:XK} {x m:Str} {p pos apos kpos:Pos} {e o:Expr} {es:List Expr} {kws:List Keyword} {te ta:TE} {t tk:TA} {nm:Option Str}
structure KBinds (K:PySem.W.Frag) (fd:FuncData) (ps ks:List Str) (g:List Value->List Value->List Value) (gV:List V->List V->List V):Prop where
 to:∀ (s:Shared) (us ws:List Value),K.In s.heap->(g us ws).length=ps.length->BindsTo s fd ⟨us,ks.zip ws⟩ (ps.zip (g us ws))
 rel:∀ {vs:List V} {us:List Value} {zs:List V} {ws:List Value},bF vs us->bF zs ws->bF (gV vs zs) (g us ws)
variable {g:List Value->List Value->List Value} {gV:List V->List V->List V}
end
structure FnScope (N P:List Str) (sc:Scope):Prop where
 kind:sc.kind=.function
 co:sc.isCoroutine=false
 gen:sc.isGenerator=false
 nd:N.Nodup
 pre:N.take P.length=P
 par:∀ x∈P,sc.names.lookup x=some .local∨sc.names.lookup x=some .cell
 nofree:∀ y∈sc.names,y.2≠.free
theorem sJ {kindOf:Str->Option NameKind} {x:Str}:∀ {binds:List (Str×Value)} {m:Str->Option Value},(∀ v,(x,v)∉binds)->bindL kindOf binds m x=m x
 | [],_,_=>rfl
 | (n,v)::r,m,h=>by
  unfold bindL
  rw [sJ fun w hw=>h w (Qq _ hw)]
  split
  ·have:x≠n:=by rintro rfl; exact h v Qk
   simp [this]
  ·rfl
theorem sK {kindOf:Str->Option NameKind} {x:Str}:∀ {binds:List (Str×Value)} {m:Str->Option Value},(∀ v,(x,v)∉binds)->bindC kindOf binds m x=m x
 | [],_,_=>rfl
 | (n,v)::r,m,h=>by
  unfold bindC
  rw [sK fun w hw=>h w (Qq _ hw)]
  split
  ·rfl
  ·have:x≠n:=by rintro rfl; exact h v Qk
   simp [this]
theorem sL {kindOf:Str->Option NameKind} {x:Str} {v:Value}:∀ {P:List Str} {vs:List Value} {i:Nat} {m:Str->Option Value},P.Nodup->P[i]?=some x->vs[i]?=some v->kindOf x=some .local ->
  bindL kindOf (P.zip vs) m x=some v
 | [],_,_,_,_,h,_,_=>by simp at h
 | _::_,[],_,_,_,_,h,_=>by simp at h
 | p::P,w::vs,0,m,nd,h1,h2,hk=>by
  simp at h1 h2; subst h1; subst h2
  show bindL kindOf ((p,w)::P.zip vs) m p=_
  unfold bindL
  rw [sJ fun v hv=>(Xi.mp nd).1 (Yk hv).1,if_pos hk]
  simp
 | p::P,w::vs,i+1,m,nd,h1,h2,hk=>by
  show bindL kindOf ((p,w)::P.zip vs) m x=_
  unfold bindL
  exact sL (i:=i) (Xi.mp nd).2 (by simpa using h1) (by simpa using h2) hk
theorem sM {kindOf:Str->Option NameKind} {x:Str} {v:Value}:∀ {P:List Str} {vs:List Value} {i:Nat} {m:Str->Option Value},P.Nodup->P[i]?=some x->vs[i]?=some v->kindOf x≠some .local ->
  bindC kindOf (P.zip vs) m x=some v
 | [],_,_,_,_,h,_,_=>by simp at h
 | _::_,[],_,_,_,_,h,_=>by simp at h
 | p::P,w::vs,0,m,nd,h1,h2,hk=>by
  simp at h1 h2; subst h1; subst h2
  show bindC kindOf ((p,w)::P.zip vs) m p=_
  unfold bindC
  rw [sK fun v hv=>(Xi.mp nd).1 (Yk hv).1,if_neg hk]
  simp
 | p::P,w::vs,i+1,m,nd,h1,h2,hk=>by
  show bindC kindOf ((p,w)::P.zip vs) m x=_
  unfold bindC
  exact sM (i:=i) (Xi.mp nd).2 (by simpa using h1) (by simpa using h2) hk
def start (N:List Str) (vs:List V):St:=vs.map some++List.replicate (N.length - vs.length) none
def aAe (CX:CXT) (P:Program) (w:World) (K:PySem.W.Frag) (mg:Str->Option Value) (base:Heap) (N:List Str) (qual:Str) (scope:Scope) (f:Addr) (cd:Value) (A:Around) (outer:List Env) (s:Shared) (H:Hp) (E:XK):Cx where
 prog:=P
 w:=w
 K:=K
 mg:=mg
 base:=base
 A:=A.deeper (envOfC qual scope s.heap.objs.size f cd)
 N:=N
 s₀:=s
 H₀:=H
 env:=envOfC qual scope s.heap.objs.size f cd
 outer:=outer
 stack:=envOfC qual scope s.heap.objs.size f cd::outer
 ex:=[]
 calm:=true
 fn:=fun _=>true
 pn:=[]
 xe:=fun e s'=>wpAny (model P w) (A.deeper (envOfC qual scope s.heap.objs.size f cd)) (leaving (envOfC qual scope s.heap.objs.size f cd) e) (fun _ s''=>CX outer H s E e s'') (fun e' s''=>CX outer H s E e' s'') s'
theorem vE {sc:Scope} {n:Nat} {x:Str} (h:sc.names.lookup x=some .cell):∃ c,(cellsFrom n sc.names []).lookup x=some c:=by
 have q:=PySem.W.cellsFrom_some sc.names n [] (.inl h)
 exact Yx.mp q
theorem aAf {CX:CXT} {P:Program} {w:World} {K:PySem.W.Frag} {mg:Str->Option Value} {base:Heap} {N ps:List Str} {qual:Str} {scope:Scope} {f:Addr} {cd:Value} {A:Around} {outer:List Env} {s s1:Shared} {H:Hp} {E:XK} {us:List Value} {vs:List V}
  (S:FnScope N ps scope) (hd:A.handled=none) (e0:Env0 P w K mg base A outer s H) (hl:vs.length=ps.length) (r:bF vs us)
  (x:InCallC s s.heap.objs.size (bindL (envOfC qual scope s.heap.objs.size f cd).kindOf (ps.zip us) fun _=>none) (cellsFrom (s.heap.objs.size+1) scope.names []) (bindC (envOfC qual scope s.heap.objs.size f cd).kindOf (ps.zip us) fun _=>none) s1) :
  Inv (aAe CX P w K mg base N qual scope f cd A outer s H E) [] (start N vs) H s1:=by
 have hpl:ps.length<=N.length:=by have:=congrArg Yl S.pre; rw [Jd] at this; omega
 obtain ⟨h1,tk,rfl,hk⟩:=x.done
 have noA:∀ b:Addr,b∉(aAe CX P w K mg base N qual scope f cd A outer s H E).ex:=fun b z=>absurd (show b∈([]:List Addr) from z) (by simp)
 refine ⟨⟨e0.mod,S.kind,rfl,rfl,Qh _,fun y z c h1 h2=>?_,fun y hy=>?_,fun y c _ h=>?_,fun _=>hd,Around.frames_deeper e0.frames,.inr ⟨rfl,rfl⟩,fun b z=>absurd z (noA b),e0.bs,e0.bsz,fun b _ _=>noA b,fun b z=>absurd z (noA b),e0.funs,e0.frf⟩,
  rfl,e0.bare,Un.kept hk,⟨_,x.toInCall.ns,fun i y v h1 h2 h3=>?_⟩,fun y c h=>⟨_,x.cell y c h⟩,e0.hok.fresh (Qh _),fun y c h=>?_,fun p hp=>absurd (show p∈([]:List (Addr×Obj)) from hp) (by simp),e0.hok.kept hk,?_⟩
 ·exact name_of_addr x.apart (PySem.mem_of_lookup h1) (PySem.mem_of_lookup h2)
 ·have hy:scope.names.lookup y=some .cell∨scope.names.lookup y=some .free:=hy
  rcases hy with hy | hy
  ·exact vE hy
  ·exact absurd rfl (S.nofree _ (PySem.mem_of_lookup hy))
 ·exact Zs (x.above y c (PySem.mem_of_lookup h))
 ·have hi:i < vs.length:=by
   unfold start at h2
   by_cases hi:i < vs.length
   ·exact hi
   ·rw [Jn (by simpa using hi)] at h2
    rw [Xn] at h2
    split at h2 <;> cases h2
  have ha:vs[i]?=some v:=by
   unfold start at h2
   rw [Jg (by simpa using hi),Qg] at h2
   cases e:vs[i]? with
   | none=>rw [e] at h2; cases h2
   | some a=>rw [e] at h2; cases h2; rfl
  obtain ⟨u,hu,rv⟩:=r.get ha
  have hp:ps[i]?=some y:=by
   rw [<- S.pre,List.getElem?_take_of_lt (by omega)]; exact h1
  have ndP:ps.Nodup:=by rw [<- S.pre]; exact S.nd.sublist (List.take_sublist _ _)
  refine ⟨u,rv,?_⟩
  rcases S.par y (Qe hp) with k | k
  ·exact .inl ⟨k,sL ndP hp hu k⟩
  ·obtain ⟨c,e⟩:=vE (n:=s.heap.objs.size+1) k
   refine .inr ⟨.inl k,c,e,?_⟩
   have q:=x.cell y c e
   rw [sM ndP hp hu (by show scope.names.lookup y≠_; rw [k]; decide)] at q
   exact q
 ·exact e0.hok.fresh (Zs (x.above y c (PySem.mem_of_lookup h)))
 ·unfold start
  show _=N.length
  rw [Qv,Qa,Xg]
  omega
theorem aEN {CX:CXT} {P:Program} {w:World} {K:PySem.W.Frag} {mg:Str->Option Value} {base:Heap} {k:Nat} {f:Addr} {name qual:Str} {params:Arguments} {body:List Stmt} {scope:Scope} {dV kV doc pm cdv ct oc:Value} {an od:Option Addr}
  {osl:Array (Option Value)} {N ps:List Str} {sp:Sp} (lk:K.lookup f=some ⟨oc,od,.func (PySem.W.fnOf name qual params body scope dV kV doc pm an cdv ct),osl⟩) (hcd:PySem.W.codeIn K cdv qual=true) (S:FnScope N ps scope)
  (len:∀ vs H Q E,sp vs H Q E->vs.length=ps.length)
  (hbody:∀ (A:Around) (outer:List Env) (s:Shared) (H:Hp) (vs:List V) (Q:VK) (E:XK),Room k (A.deeper (envOfC qual scope s.heap.objs.size f cdv))->sp vs H Q E ->
   ∃ t,PSs (aAe CX P w K mg base N qual scope f cdv A outer s H E) body t/\t { nx:=fun _ H'=>Q .non H',rt:=Q } (start N vs) H) :
  FnOk P w K mg base CX (k+1) f (PySem.W.fnOf name qual params body scope dV kV doc pm an cdv ct) ps sp:=by
 refine ⟨len,fun A outer s H args us vs Q E hr e0 hb r hsp=>?_⟩
 have hl:=len _ _ _ _ hsp
 have KX:K.In s.heap:=e0.mod.kin.keeps fun b o e=>(e0.bs b o e).1
 have lim:s.heap.NoLimit:=e0.mod.nolimit.keeps fun b o e=>(e0.bs b o e).1
 have hkind:∀ y∈ps.zip us,scope.names.lookup y.1=some .local∨(scope.names.lookup y.1=some .cell/\((cellsFrom (s.heap.objs.size+1) scope.names []).lookup y.1).isSome=true):=fun ⟨n,v⟩ hy=>by
  rcases S.par n (Yk hy).1 with q | q
  ·exact .inl q
  ·exact .inr ⟨q,PySem.W.cellsFrom_some _ _ _ (.inl q)⟩
 refine codeAny_call_function hr.depth (KX _ _ lk) rfl S.co S.gen rfl (PySem.W.codeRec_of KX hcd) (hb _ _ _ _ ?_)
 refine wpAny_newFunctionEnv_cells S.kind hkind fun env he s1 x=>?_
 subst he
 refine ⟨lim.keeps x.toInCall.keep,codeAny_func ?_⟩
 obtain ⟨t,ht,hq⟩:=hbody A outer s H vs Q E (hr.deeper _) hsp
 have I:Inv (aAe CX P w K mg base N qual scope f cdv A outer s H E) [] (start N vs) H s1:=aAf S hr.hd e0 hl r x
 refine wpAny_mono (ht [] s1 (start N vs) H _ I hq) (fun fl s' hs=>?_) fun e s' hs=>hs
 have fin:∀ {σ':St} {H':Hp} {v:V} {u:Value},Inv (aAe CX P w K mg base N qual scope f cdv A outer s H E) [] σ' H' s'->bI v u->Q v H'->CE outer P w H s Q u s' :=
  fun {σ' H' v u} J rv q=>⟨v,H',J.os,J.bare,J.base,J.hok,rv,q⟩
 cases fl with
 | ret u =>
  obtain ⟨v,σ',H',J,rv,q⟩:=hs
  exact fin J rv q
 | next =>
  obtain ⟨σ',H',J,q⟩:=hs
  exact fin (v:=V.non) (u:=Value.none) J rfl q
 | brk =>
  obtain ⟨_,_,_,q⟩:=hs
  exact False.elim q
 | cont =>
  obtain ⟨_,_,_,q⟩:=hs
  exact False.elim q
section
variable {X:Cx} {x:Str} {p pos:Pos} {e:Expr} {es:List Expr} {t:TA} {id T:String} {r:List V->Hp->VK->Prop}
def tCB (r:List V->Hp->VK->Prop) (t:TA):TE:=fun σ H Q=>t σ H fun vs H1=>r vs H1 Q
theorem aP (hc:eY X (.builtin id) r) (hg:Gl X x) (hm:X.mg x=none) (hv:bootBuiltins x=some (.builtin id)) (ha:PA X (e::es) t) (hn:x ≠ "__name__" := by decide) (hdb:(x==("__debug__" : Str))=false:=by decide)
  (he:starEach (e::es) X.env=(false,eval e X.env)::starEach es X.env:=by rfl) (hpl:(backTo pos (starEach es X.env)).any (·.1)=false:=by rfl):PE X (.Call (.Name x p) (e::es) [] pos) (tCB r t):=by
 intro pins s σ H Q I h
 refine wpAny_Call_Name_kw (kB I hg hm hv ?_ hn hdb)
 refine PyProof.Rows.callWith_builtin1 (thn (ha pos pins s σ H _ I h) fun us s1 hx9=>?_) he hpl
 obtain ⟨vs,H1,I1,r1,q1⟩:=hx9
 exact hc pins s1 σ H1 vs us Q I1 r1 q1
theorem bZ (hc:eY X (.type T) r) (hg:Gl X x) (hm:X.mg x=none) (hv:bootBuiltins x=some (.type T)) (ha:PA X (e::es) t) (hn:x ≠ "__name__" := by decide) (hdb:(x==("__debug__" : Str))=false:=by decide)
  (he:starEach (e::es) X.env=(false,eval e X.env)::starEach es X.env:=by rfl) (hpl:(backTo pos (starEach es X.env)).any (·.1)=false:=by rfl):PE X (.Call (.Name x p) (e::es) [] pos) (tCB r t):=by
 intro pins s σ H Q I h
 refine wpAny_Call_Name_kw (kB I hg hm hv ?_ hn hdb)
 refine PyProof.Rows.callWith_type1 (thn (ha pos pins s σ H _ I h) fun us s1 hx9=>?_) he hpl
 obtain ⟨vs,H1,I1,r1,q1⟩:=hx9
 exact hc pins s1 σ H1 vs us Q I1 r1 q1
end
end L2
namespace HT
open PySem PyProof.Rows
section
open PySem.SeqAt
open PySem.AutoSeq1 (wpAny_loadPart')
open PySem.MeetsSeq PySem.MeetsSeq2 PySem.MeetsSeq3
end
section
variable {prog:Program} {w:World} {A:Around} {E:Value->Shared->Prop} {s:Shared}
theorem cat_tup {t b:Addr} {vs ws:List Value} {Q:Value->Shared->Prop} (ht:IsTup s.heap t vs.toArray) (hb:IsTup s.heap b ws.toArray) (hv:vs≠[])
  (h1:ws = []->Q (.ref t) s) (h2:ws≠[]->Q (.ref s.heap.objs.size) { s with heap:=s.heap.push { cls:=.type "tuple",data:=.seq (vs++ws).toArray } })
  (hsz:vs.length+ws.length<=sizeLine):wpAny (model prog w) A (binaryOp .Add (.ref t) (.ref b)) Q E s:=by
 obtain ⟨⟨cls,dd,data,sl⟩,ho,hc,n,hd⟩:=id ht
 obtain ⟨⟨cls2,dd2,data2,sl2⟩,ho2,hc2,n2,hd2⟩:=id hb
 simp only at hc hd hc2 hd2
 subst hc hd hc2 hd2
 have e:vs.toArray++ws.toArray=(vs++ws).toArray:=by simp
 by_cases hw:ws = []
 ·exact concat_meets ⟨_,ho,rfl⟩ ⟨_,ho2,rfl⟩ noFill_tuple_add seq_tuple_add PySem.F.slot_tuple_add PySem.F.entry_tuple_add (PySem.F.args_tuple_add_2 _ _)
   (tuple_addW1 t b vs.toArray ws.toArray n n2 dd dd2 sl sl2 (by simpa using hv) (by simp [hw])) ⟨ho,ho2,h1 hw⟩
 ·refine concat_meets ⟨_,ho,rfl⟩ ⟨_,ho2,rfl⟩ noFill_tuple_add seq_tuple_add PySem.F.slot_tuple_add PySem.F.entry_tuple_add (PySem.F.args_tuple_add_2 _ _)
   (tuple_addW2 t b vs.toArray ws.toArray n n2 dd dd2 sl sl2 (by simpa using hv) (by simpa using hw) (by rw [Qj,Qj]; exact hsz)) ⟨ho,ho2,?_⟩
  rw [e]
  exact h2 hw
def sIx (n d:Nat):Option Int->Nat
 | none=>d
 | some v=>if v < 0 then (v+(n:Int)).toNat else min v.toNat n
theorem sIx_none (n d:Nat):sIx n d none=d:=rfl
theorem sIx_nat (n d k:Nat):sIx n d (some (k:Int))=min k n:=by
 show (if (k:Int) < 0 then ((k:Int)+(n:Int)).toNat else min (k:Int).toNat n)=min k n
 rw [if_neg (by omega),Yy]
theorem slicePart_ {v:Value} {o:Option Int} {Q:Option Int->Shared->Prop} (p:IsPart v o) (h:Q o s):wpAny (model prog w) A (Builtin.Slice.slicePartIndex v) Q E s:=by
 cases p with
 | none=>exact slicePart_none h
 | int i t=>exact slicePart_int h
theorem pick_gen (xs:Array Value) (i k:Nat):((List.range k).filterMap fun (m:Nat)=>xs[((i:Int)+(m:Int)*1).toNat]?).toArray=((xs.toList.drop i).take k).toArray:=by
 have e:(fun (m:Nat)=>xs[((i:Int)+(m:Int)*1).toNat]?)=fun m=>xs[i+m]?:=by
  funext m
  have:((i:Int)+(m:Int)*1).toNat=i+m:=by omega
  rw [this]
 rw [e]
 have:=pick_run xs i k
 rw [Wv] at this
 have e2:((fun x=>xs[x]?) ∘ fun x=>i+x)=fun m=>xs[i+m]?:=rfl
 rw [e2] at this
 rw [this]
end
end HT
namespace L2
open PySem PySem.Spec PyProof.Rows
abbrev TO:=St->Hp->(Option Int->Hp->Prop)->Prop
def PO (X:Cx) (e:Option Expr) (t:TO):Prop :=
 ∀ (pins:List (Addr×Obj)) (s:Shared) (σ:St) (H:Hp) (Q:Option Int->Hp->Prop),Inv X pins σ H s->t σ H Q ->
  wpAny (model X.prog X.w) X.A (evalPart e X.env) (fun u s'=>∃ o H',Inv X pins σ H' s'/\IsPart u o/\Q o H') X.xe s
def aCu:TO:=fun _ H Q=>Q none H
def aEO (t:TE):TO:=fun σ H Q=>t σ H fun x H1=>∃ i,x=.int i/\Q (some i) H1
theorem mD {ns:List Int}:∀ {us:List Value},bF (ns.map V.int) us->IntsAre us ns:=by
 induction ns with
 | nil=>intro us r; rw [Zt] at r; cases r; exact .nil
 | cons n ns ih =>
  intro us r
  rw [Jc] at r
  cases r with
  | cons r1 r2 =>
   obtain ⟨t,e⟩:=r1
   subst e
   exact .cons n t (ih r2)
section
variable {X:Cx} {e:Expr} {te:TE} {lo hi:Option Expr} {tl th:TO} {pos p2:Pos}
theorem yN:PO X none aCu:=by
 intro pins s σ H Q I h
 rw [evalPart_none]
 exact wpAny_pure ⟨none,H,I,.none,h⟩
theorem yO (h:PE X e te):PO X (some e) (aEO te):=by
 intro pins s σ H Q I hw
 rw [evalPart_some]
 refine thn (h pins s σ H _ I hw) fun u s1 hx9=>?_
 obtain ⟨x,H1,I1,r1,q1⟩:=hx9
 obtain ⟨i,rfl,q⟩:=q1
 obtain ⟨t,rfl⟩:=r1
 exact ⟨some i,H1,I1,.int i t,q⟩
def SlR (X:Cx) (r:V->Option Int->Option Int->Hp->VK->Prop):Prop :=
 ∀ (pins:List (Addr×Obj)) (s:Shared) (σ:St) (H:Hp) (x:V) (v vl vu:Value) (lo hi:Option Int) (sl:Addr) (Q:VK),Inv X pins σ H s->bI x v->s.heap.IsSliceOf sl vl vu .none->IsPart vl lo->IsPart vu hi->r x lo hi H Q ->
  ∃ T id,typeLookup (.type T) "__getitem__" = pure (some (.builtin id))/\s.TypeIs v T/\wpAny (model X.prog X.w) X.A (getItem v (.ref sl)) (EP X pins σ Q) X.xe s
def tSl (r:V->Option Int->Option Int->Hp->VK->Prop) (te:TE) (tl th:TO):TE:=fun σ H Q=>te σ H fun x H1=>tl σ H1 fun l H2=>th σ H2 fun u H3=>r x l u H3 Q
theorem vF {r:V->Option Int->Option Int->Hp->VK->Prop} (hr:SlR X r) (he:PE X e te) (hl:PO X lo tl) (hu:PO X hi th):PE X (.Subscript e (.Slice lo hi none p2) pos) (tSl r te tl th):=by
 intro pins s σ H Q I h
 refine Subscript_ (thn (he pins s σ H _ I h) fun v s1 hx9=>?_)
 obtain ⟨x,H1,I1,r1,q1⟩:=hx9
 refine wpAny_Slice (thn (hl pins s1 σ H1 _ I1 q1) fun vl s2 ⟨l,H2,I2,pl,q2⟩=>thn (hu pins s2 σ H2 _ I2 q2) fun vu s3 hx9=>?_)
 obtain ⟨u,H3,I3,pu,q3⟩:=hx9
 rw [evalPart_none]
 refine wpAny_pure ?_
 have I4:Inv X pins σ H3 { s3 with heap:=s3.heap.push { cls:=.type "slice",data:=.fields #[vl,vu,.none] } }:=I3.kept (t':=s3.toks) fun b ob q=>Qb _ q
 obtain ⟨T,id,hT,ht,hg⟩:=hr pins { s3 with heap:=s3.heap.push { cls:=.type "slice",data:=.fields #[vl,vu,.none] } } σ H3 x v vl vu l u s3.heap.objs.size Q I4 r1 (Heap.IsSliceOf.new ..) pl pu q3
 show wpAny (model X.prog X.w) X.A (subscriptTail e (.Slice lo hi none p2) v (.ref s3.heap.objs.size)) (EP X pins σ Q) X.xe { s3 with heap:=s3.heap.push { cls:=.type "slice",data:=.fields #[vl,vu,.none] } }
 exact tail_any (ops:=[.ref s3.heap.objs.size,v]) ht hT hg (by with_unfolding_all rfl)
def vG (xs:List V) (lo hi:Option Int):List V:=(xs.drop (HT.sIx xs.length 0 lo)).take (HT.sIx xs.length xs.length hi - HT.sIx xs.length 0 lo)
theorem vH (xs:List V) (lo hi:Option Int):(vG xs lo hi).length<=xs.length:=by
 unfold vG
 rw [Jd,Ye]
 exact Qt (Nat.min_le_right _ _) (Nat.sub_le _ _)
def aEP (K:PySem.W.Frag):R2:=fun x y H Q=>∃ a b xs ys,x=.ref a/\y=.ref b/\SqT K H a xs/\SqT K H b ys/\xs≠[]/\xs.length+ys.length<=sizeLine /\
 (ys = []->Q (.ref a) H)/\(ys≠[]->∀ p,H p=none->Q (.ref p) (upd H p (.tup (xs++ys))))
theorem bF.nil_iff {xs:List V} {us:List Value} (r:bF xs us):us = []↔xs = []:=by
 cases r with
 | nil=>simp
 | cons _ _=>simp
theorem aCv:OpR X (binaryOp .Add) (aEP X.K):=by
 intro pins s σ H x y v u Q I rx ry h
 obtain ⟨a,b,xs,ys,rfl,rfl,ha,hb,hx,hz,q1,q2⟩:=h
 cases rx
 cases ry
 obtain ⟨its,r1,p1,_⟩:=I.tuple ha
 obtain ⟨its2,r2,p2,_⟩:=I.tuple hb
 refine HT.cat_tup p1 p2 (fun z=>hx (r1.nil_iff.mp z)) (fun z=>⟨.ref a,H,I,rfl,q1 (r2.nil_iff.mp z)⟩) (fun z=>?_) (by rw [<- r1.length,<- r2.length]; exact hz)
 refine ⟨.ref s.heap.objs.size,_,I.laid (t':=s.toks) (o:=.tup (xs++ys)) (fun b ob q=>Qb _ q) (Qh _) ?_,rfl,q2 (fun w=>z (r2.nil_iff.mpr w)) _ (I.hok.fresh (Qh _))⟩
 exact ⟨by rw [Qv]; exact hz,_,0,r1.append r2,Qn _ rfl⟩
end
def ixN (n:Nat) (i:Int):Option Nat:=if 0<=i then (if i < n then some i.toNat else none) else if -(n:Int)<=i then some (i+n).toNat else none
def atI {α:Type} (xs:List α) (i:Int):Option α:=(ixN xs.length i).bind fun j=>xs[j]?
theorem yP {n:Nat} {i:Int} {j:Nat} (h:ixN n i=some j):seqIndex? i n=some j/\j < n/\-(n:Int)<=i/\i < n:=by
 unfold ixN at h
 by_cases h0:0<=i
 ·rw [if_pos h0] at h
  by_cases h1:i < n
  ·rw [if_pos h1] at h
   have e:i.toNat=j:=Option.some.inj h
   exact ⟨by rw [seqIndex_of h0 h1,e],by omega,by omega,h1⟩
  ·rw [if_neg h1] at h; cases h
 ·rw [if_neg h0] at h
  by_cases h1:-(n:Int)<=i
  ·rw [if_pos h1] at h
   have e:(i+n).toNat=j:=Option.some.inj h
   exact ⟨by rw [seqIndex_neg (by omega) h1,e],by omega,h1,by omega⟩
  ·rw [if_neg h1] at h; cases h
theorem yQ {α:Type} {xs:List α} {i:Int} {v:α} (h:atI xs i=some v):∃ j,seqIndex? i xs.length=some j/\xs[j]?=some v/\j < xs.length/\-(xs.length:Int)<=i/\i < xs.length:=by
 unfold atI at h
 cases e:ixN xs.length i with
 | none=>rw [e] at h; cases h
 | some j =>
  rw [e] at h
  obtain ⟨h1,h2,h3,h4⟩:=yP e
  exact ⟨j,h1,h,h2,h3,h4⟩
theorem gC {α:Type} {xs:List α} {j:Nat} {v:α} (h:xs[j]?=some v):atI xs (j:Int)=some v:=by
 have hj:j < xs.length:=(Qd.mp h).1
 have e:ixN xs.length (j:Int)=some j:=by
  unfold ixN
  rw [if_pos (by omega),if_pos (by omega)]; simp
 unfold atI; rw [e]; exact h
def aCw (b:Expr):Prop:=∀ o i,subscripted b false o i=operate [o,i] (getItem o i)
def IxR (X:Cx) (r:R2):Prop :=
 ∀ (value slice:Expr) (pins:List (Addr×Obj)) (s:Shared) (σ:St) (H:Hp) (x y:V) (v u:Value) (Q:VK),Inv X pins σ H s->bI x v->bI y u->r x y H Q ->
  subscripted slice false v u=operate [v,u] (getItem v u)->wpAny (model X.prog X.w) X.A (subscriptTail value slice v u) (EP X pins σ Q) X.xe s
def MtR (X:Cx) (id:String) (r:V->List V->Hp->VK->Prop):Prop :=
 ∀ (pins:List (Addr×Obj)) (s:Shared) (σ:St) (H:Hp) (x:V) (xs:List V) (v:Value) (us:List Value) (Q:VK),Inv X pins σ H s->bI x v->bF xs us->r x xs H Q ->
  wpAny (model X.prog X.w) X.A (call (.builtin id) (v::us)) (EP X pins σ Q) X.xe s
section
variable {X:Cx} {a b:Expr} {ta tb:TE} {pos:Pos}
theorem aY {r:R2} (hr:IxR X r) (ha:PE X a ta) (hb:PE X b tb) (hs:aCw b):PE X (.Subscript a b pos) (tOp r ta tb):=by
 intro pins s σ H Q I h
 exact Subscript_ (aDU ha hb I h fun v u s2 x y H2 I2 rx ry q=>hr a b pins s2 σ H2 x y v u Q I2 rx ry q (hs _ _))
def aEQ (K:PySem.W.Frag):R2:=fun x y H Q=>∃ p xs i v,x=.ref p/\y=.int i/\SqL K H p xs/\atI xs i=some v/\Q v H
def aER (K:PySem.W.Frag):R2:=fun x y H Q=>∃ p xs i v,x=.ref p/\y=.int i/\SqT K H p xs/\atI xs i=some v/\Q v H
theorem dG:IxR X (aEQ X.K):=by
 intro value slice pins s σ H x y v u Q I rx ry h hs
 obtain ⟨p,xs,i,z,rfl,rfl,hq,he,q⟩:=h
 cases rx
 obtain ⟨t,rfl⟩:=ry
 obtain ⟨its,r,pl,hz⟩:=I.list hq
 obtain ⟨j,h1,h2,h3,h4,h5⟩:=yQ he
 obtain ⟨w,ew,rw'⟩:=r.get h2
 have hl:=r.length
 have hn:=pM
 have fin:EP X pins σ Q w s:=⟨z,H,I,rw',q⟩
 by_cases h0:0<=i
 ·have hj:i.toNat=j:=by
   rw [seqIndex_of h0 h5] at h1
   exact Option.some.inj h1
  exact item_listR pl.isList h0 (by omega) (by rw [hj]; simpa using ew) fin hs
 ·have hj:(i+(its.toArray.size:Int)).toNat=j:=by
   rw [seqIndex_neg (by omega) h4] at h1
   rw [Qj,<- hl]
   exact Option.some.inj h1
  exact subscriptTail_builtinR (x:=w) pl.isList.typeIs slot_list_getitem.lookup
   (wpAny_getItem_list_neg (Q:=fun r s'=>r=w/\EP X pins σ Q r s') pl.isList (by omega) (by rw [Qj] <;> omega) (by omega) (by rw [hj]; simpa using ew) ⟨rfl,fin⟩) hs
theorem bL:IxR X (aER X.K):=by
 intro value slice pins s σ H x y v u Q I rx ry h hs
 obtain ⟨p,xs,i,z,rfl,rfl,hq,he,q⟩:=h
 cases rx
 obtain ⟨t,rfl⟩:=ry
 obtain ⟨its,r,pl,hz⟩:=I.tuple hq
 obtain ⟨j,h1,h2,h3,h4,h5⟩:=yQ he
 obtain ⟨w,ew,rw'⟩:=r.get h2
 have hl:=r.length
 have hn:=pM
 have fin:EP X pins σ Q w s:=⟨z,H,I,rw',q⟩
 exact subscriptTail_builtinR (x:=w) pl.typeIs slot_tuple_getitem.lookup
  (getItem_tuple (j:=j) (Q:=fun r s'=>r=w/\EP X pins σ Q r s') pl (by omega) (by omega) (by rw [Qj,<- hl]; exact h1) (by simpa using ew) ⟨rfl,fin⟩) hs
theorem xM (its:List Value) (n j:Nat) (u:Value):Obj.mapSeq (·.setIfInBounds j u) { cls:=.type "list",data:=.seq its.toArray n }={ cls:=.type "list",data:=.seq (its.set j u).toArray n }:=by
 simp [Obj.mapSeq]
theorem Inv.lst {pins:List (Addr×Obj)} {σ:St} {H:Hp} {s:Shared} {p:Addr} {xs:List V} (I:Inv X pins σ H s) (h:H p=some (.lst xs)) :
  ∃ (its:List Value) (n:Nat),bF xs its/\s.heap.get? p=some { cls:=.type "list",data:=.seq its.toArray n }/\xs.length<=sizeLine:=by
 obtain ⟨z,its,n,r,e⟩:=I.hok p _ h
 exact ⟨its,n,r,e,z⟩
theorem Inv.lstUpd {pins:List (Addr×Obj)} {σ:St} {H:Hp} {s:Shared} {p:Addr} {xs ys:List V} {its its':List Value} {n n':Nat} {f:Obj->Obj} (I:Inv X pins σ H s) (h:H p=some (.lst xs))
  (ho:s.heap.get? p=some { cls:=.type "list",data:=.seq its.toArray n }) (hf:f { cls:=.type "list",data:=.seq its.toArray n }={ cls:=.type "list",data:=.seq its'.toArray n' }) (r:bF ys its') (hz:ys.length<=sizeLine) (t:Nat) :
  Inv X pins σ (upd H p (.lst ys)) { s with heap:=s.heap.update p f,toks:=t }:=by
 have e:(s.heap.update p f).get? p=some { cls:=.type "list",data:=.seq its'.toArray n' }:=by
  rw [Ze f ho (by rw [hf] <;> rfl),hf]
 refine I.write (x:=p) (e:=p) (by rw [h]; trivial) (.inl rfl) (fun b u hb q=>(Xd _ _ (Ne.symm hb)).trans q) ⟨_,e⟩ ?_
 exact ⟨hz,its',n',r,e⟩
def aES:V->V->V->Hp->(Hp->Prop)->Prop:=fun o i v H Q=>∃ p xs k j,o=.ref p/\i=.int k/\H p=some (.lst xs)/\ixN xs.length k=some j/\Q (upd H p (.lst (xs.set j v)))
theorem vI:aDQ X aES:=by
 intro pins s σ H o i v ov iv u Q I ro ri rv h
 obtain ⟨p,xs,k,j,rfl,rfl,hp,hj,q⟩:=h
 cases ro
 obtain ⟨t,rfl⟩:=ri
 obtain ⟨its,n,r,ho,hz⟩:=I.lst hp
 obtain ⟨h1,h2,h3,h4⟩:=yP hj
 have hl:=r.length
 have hn:=pM
 have I':Inv X pins σ (upd H p (.lst (xs.set j v))) { s with heap:=s.heap.update p (Obj.mapSeq (·.setIfInBounds j u)) } :=
  I.lstUpd hp ho (xM its n j u) (r.set rv j) (by rw [Xv]; exact hz) s.toks
 by_cases h0:0<=k
 ·have hk:k.toNat=j:=by
   rw [seqIndex_of h0 h4] at h1
   exact Option.some.inj h1
  exact PySem.W.ki_setAt ho h0 (by omega) (by rw [Qj,<- hl]; exact h4) (by rw [hk]; exact ⟨_,I',q⟩)
 ·have hk:(k+(its.toArray.size:Int)).toNat=j:=by
   rw [seqIndex_neg (by omega) h3] at h1
   rw [Qj,<- hl]
   exact Option.some.inj h1
  exact PySem.W.ki_setBack ho (by omega) (by rw [Qj,<- hl]; exact h3) (by omega) (by rw [hk]; exact ⟨_,I',q⟩)
theorem tL (lo hi:Option Int) (n:Nat):(sliceBounds lo hi none n).1=((HT.sIx n 0 lo:Nat):Int)/\(sliceBounds lo hi none n).2.1=((HT.sIx n n hi:Nat):Int)/\(sliceBounds lo hi none n).2.2=1:=by
 refine ⟨?_,?_,rfl⟩
 ·cases lo with
  | none=>simp [sliceBounds,HT.sIx]
  | some i =>
   simp only [sliceBounds,HT.sIx,Wy,show (1:Int) > 0 by decide,if_true]
   by_cases h:i < 0
   ·simp only [h,if_true] <;> omega
   ·simp only [h,if_false] <;> omega
 ·cases hi with
  | none=>simp [sliceBounds,HT.sIx]
  | some i =>
   simp only [sliceBounds,HT.sIx,Wy,show (1:Int) > 0 by decide,if_true]
   by_cases h:i < 0
   ·simp only [h,if_true] <;> omega
   ·simp only [h,if_false] <;> omega
theorem rP (its:List Value) (lo hi:Option Int):slicePick its.toArray lo hi none=((its.drop (HT.sIx its.length 0 lo)).take (HT.sIx its.length its.length hi - HT.sIx its.length 0 lo)).toArray:=by
 obtain ⟨h1,h2,h3⟩:=tL lo hi its.toArray.size
 unfold slicePick
 rw [h1,h2,h3]
 simp only [sliceRange_one,pick_run,Qj] <;> rfl
def aFw (K:PySem.W.Frag):V->Option Int->Option Int->Hp->VK->Prop:=fun x lo hi H Q=>∃ a xs,x=.ref a/\SqL K H a xs/\∀ p,H p=none->Q (.ref p) (upd H p (.lst (vG xs lo hi)))
theorem yR:SlR X (aFw X.K):=by
 intro pins s σ H x v vl vu lo hi sl Q I rx hs pl pu h
 obtain ⟨a,xs,rfl,hx,q⟩:=h
 cases rx
 obtain ⟨its,r,ht,hz⟩:=I.list hx
 have hlen:=r.length
 refine ⟨"list",_,slot_list_getitem.lookup,ht.isList.typeIs,?_⟩
 refine wpAny_getItem_list_slice ht.isList hs pl pu .none (by simp) ?_ (by rw [Qj] <;> omega)
 rw [rP,<- hlen]
 refine ⟨.ref s.heap.objs.size,_,I.laid (t':=s.toks) (o:=.lst (vG xs lo hi)) (fun b ob q=>Qb _ q) (Qh _) ?_,rfl,q _ (I.hok.fresh (Qh _))⟩
 exact ⟨Qt (vH xs lo hi) hz,_,0,(r.drop (HT.sIx xs.length 0 lo)).take (HT.sIx xs.length xs.length hi - HT.sIx xs.length 0 lo),Qn _ rfl⟩
def lY:V->Bool
 | .non=>true
 | .bl _=>true
 | .int _=>true
 | .str _=>true
 | _=>false
def eqV:V->V->Bool
 | .non,.non=>true
 | .bl a,.bl b=>a==b
 | .bl a,.int b=>(if a then 1 else 0)==b
 | .int a,.bl b=>a==(if b then 1 else 0)
 | .int a,.int b=>a==b
 | .str a,.str b=>a==b
 | _,_=>false
theorem aD0 {A:Around} {s:Shared} {y x:V} {u v:Value} (ry:bI y u) (rx:bI x v) (fy:lY y=true) (fx:lY x=true):SeqAt.EqAt A s u v (eqV y x):=by
 cases y with
 | non =>
  cases ry
  cases x with
  | non=>cases rx; exact SeqAt.EqAt.same _
  | bl b=>cases rx; exact SeqAt.EqAt.none_bool b
  | int b=>obtain ⟨t,rfl⟩:=rx; exact SeqAt.EqAt.none_int b t
  | str b=>obtain ⟨t,rfl⟩:=rx; exact SeqAt.EqAt.none_str b t
  | _=>exact absurd (show false=true from fx) Qz
 | bl a =>
  cases ry
  cases x with
  | non=>cases rx; exact SeqAt.EqAt.bool_none a
  | bl b=>cases rx; exact SeqAt.EqAt.bool_bool a b
  | int b=>obtain ⟨t,rfl⟩:=rx; exact SeqAt.EqAt.bool_int a b t
  | str b=>obtain ⟨t,rfl⟩:=rx; exact SeqAt.EqAt.bool_str a b t
  | _=>exact absurd (show false=true from fx) Qz
 | int a =>
  obtain ⟨t',rfl⟩:=ry
  cases x with
  | non=>cases rx; exact SeqAt.EqAt.int_none a t'
  | bl b=>cases rx; exact SeqAt.EqAt.int_bool a t' b
  | int b=>obtain ⟨t,rfl⟩:=rx; exact SeqAt.EqAt.int_int a t' b t
  | str b=>obtain ⟨t,rfl⟩:=rx; exact SeqAt.EqAt.int_str a t' b t
  | _=>exact absurd (show false=true from fx) Qz
 | str a =>
  obtain ⟨t',rfl⟩:=ry
  cases x with
  | non=>cases rx; exact SeqAt.EqAt.str_none a t'
  | bl b=>cases rx; exact SeqAt.EqAt.str_bool a t' b
  | int b=>obtain ⟨t,rfl⟩:=rx; exact SeqAt.EqAt.str_int a t' b t
  | str b=>obtain ⟨t,rfl⟩:=rx; exact SeqAt.EqAt.str_str a t' b t
  | _=>exact absurd (show false=true from fx) Qz
 | _=>exact absurd (show false=true from fy) Qz
def eqU (x:V) (u:Value):Bool:=match u with
 | .none=>eqV .non x
 | .bool b=>eqV (.bl b) x
 | .int i _=>eqV (.int i) x
 | .str z _=>eqV (.str z) x
 | _=>false
theorem aA5 {x y:V} {u:Value} (r:bI y u) (f:lY y=true):eqU x u=eqV y x:=by
 cases y with
 | non=>cases r; rfl
 | bl b=>cases r; rfl
 | int i=>obtain ⟨t,rfl⟩:=r; rfl
 | str z=>obtain ⟨t,rfl⟩:=r; rfl
 | _=>exact absurd (show false=true from f) Qz
theorem oX {x:V}:∀ {xs:List V} {us:List Value},bF xs us->xs.all lY=true->us.any (eqU x)=xs.any fun y=>eqV y x
 := by
 intro xs us h
 induction h with
 | nil=>intro _; rfl
 | cons r t ih =>
  intro f
  rw [Yh,Jj] at f
  rw [Yi,Yi,aA5 r f.1,ih f.2]
theorem kU {A:Around} {s:Shared} {x:V} {v:Value} (rx:bI x v) (fx:lY x=true):∀ {xs:List V} {us:List Value},bF xs us->xs.all lY=true->∀ u∈us,SeqAt.EqAt A s u v (eqU x u)
 | _,_,.nil,_=>fun u hu=>by cases hu
 | y::xs,u::us,.cons r t,f=>fun u' hu=>by
  rw [Yh,Jj] at f
  rcases Ql.mp hu with rfl | hu
  ·rw [aA5 r f.1]; exact aD0 r rx f.1 fx
  ·exact kU rx fx t f.2 u' hu
def inV (x:V) (xs:List V):Bool:=xs.any fun y=>eqV y x
def rIn (K:PySem.W.Frag) (neg:Bool):R2:=fun x y H Q=>∃ p xs,y=.ref p/\(SqL K H p xs∨SqT K H p xs)/\lY x=true/\xs.all lY=true/\Q (.bl (if neg then !inV x xs else inV x xs)) H
theorem lI:OpR X (compareOp .In) (rIn X.K false):=by
 intro pins s σ H x y v u Q I rx ry h
 obtain ⟨p,xs,rfl,hq,fx,fs,q⟩:=h
 cases ry
 rcases hq with hq | hq
 ·obtain ⟨its,r,pl,hz⟩:=I.list hq
  refine SeqAt.in_listAt (eqU x) pl.isList (fun w hw=>kU rx fx r fs w (by simpa using hw)) ⟨.bl _,H,I,rfl,?_⟩
  rw [show its.toArray.any (eqU x)=its.any (eqU x) by simp,oX r fs]
  exact q
 ·obtain ⟨its,r,pl,hz⟩:=I.tuple hq
  refine SeqAt.in_tupleAt (eqU x) pl (fun w hw=>kU rx fx r fs w (by simpa using hw)) ⟨.bl _,H,I,rfl,?_⟩
  rw [show its.toArray.any (eqU x)=its.any (eqU x) by simp,oX r fs]
  exact q
theorem tM:OpR X (compareOp .NotIn) (rIn X.K true):=by
 intro pins s σ H x y v u Q I rx ry h
 obtain ⟨p,xs,rfl,hq,fx,fs,q⟩:=h
 cases ry
 rcases hq with hq | hq
 ·obtain ⟨its,r,pl,hz⟩:=I.list hq
  refine SeqAt.notIn_listAt (eqU x) pl.isList (fun w hw=>kU rx fx r fs w (by simpa using hw)) ⟨.bl _,H,I,rfl,?_⟩
  rw [show its.toArray.any (eqU x)=its.any (eqU x) by simp,oX r fs]
  exact q
 ·obtain ⟨its,r,pl,hz⟩:=I.tuple hq
  refine SeqAt.notIn_tupleAt (eqU x) pl (fun w hw=>kU rx fx r fs w (by simpa using hw)) ⟨.bl _,H,I,rfl,?_⟩
  rw [show its.toArray.any (eqU x)=its.any (eqU x) by simp,oX r fs]
  exact q
theorem aU:eY X (.builtin "len") (fun xs H Q=>∃ p ys,xs = [.ref p]/\(SqL X.K H p ys∨SqT X.K H p ys)/\Q (.int ys.length) H):=by
 intro pins s σ H xs us Q I r h
 obtain ⟨p,ys,rfl,hq,q⟩:=h
 obtain ⟨u,rfl,rx⟩:=jR r
 cases rx
 have hn:=pM
 rcases hq with hq | hq
 ·obtain ⟨its,r',pl,hz⟩:=I.list hq
  have hlen:=r'.length
  exact Calls.call_len_list pl.isList (by simp only [Qj] <;> omega) ⟨.int ys.length,H,I.tok _,⟨s.toks+1,by rw [Qj,hlen]⟩,q⟩
 ·obtain ⟨its,r',pl,hz⟩:=I.tuple hq
  have hlen:=r'.length
  exact len_tuple pl (by simp only [Qj] <;> omega) ⟨.int ys.length,H,I.tok _,⟨s.toks+1,by rw [Qj,hlen]⟩,q⟩
theorem mK:eY X (.type "list") (fun xs H Q=>∃ p ys,xs = [.ref p]/\(SqL X.K H p ys∨SqT X.K H p ys)/\∀ l,H l=none->Q (.ref l) (upd H l (.lst ys))):=by
 intro pins s σ H xs us Q I r h
 obtain ⟨p,ys,rfl,hq,q⟩:=h
 obtain ⟨u,rfl,rx⟩:=jR r
 cases rx
 have fin:∀ (its:List Value),bF ys its->ys.length<=sizeLine->∀ (h':Heap) (c':Nat),(∀ b o',s.heap.get? b=some o'->h'.get? b=some o') ->
   h'.get? s.heap.objs.size=some { cls:=.type "list",dict:=none,data:=.seq its.toArray c',slots:=#[] }->EP X pins σ Q (.ref s.heap.objs.size) { s with heap:=h' }:=fun its r' hz h' c' kp e =>
  ⟨.ref s.heap.objs.size,_,I.laid (t':=s.toks) kp (Qh _) (show cJ X.prog X.w _ h' _ (.lst ys) from ⟨hz,its,c',r',e⟩),rfl,q _ (I.hok.fresh (Qh _))⟩
 rcases hq with hq | hq
 ·obtain ⟨its,r',pl,hz⟩:=I.list hq
  have hlen:=r'.length
  obtain ⟨o,ho,hc,n,hd⟩:=pl.isList
  exact call_list_seq p (.inl rfl) ho hc hd (fun h' c' kp e=>fin its r' hz h' c' kp e) (by simp only [Qj] <;> omega)
 ·obtain ⟨its,r',pl,hz⟩:=I.tuple hq
  have hlen:=r'.length
  obtain ⟨o,ho,hc,n,hd⟩:=pl
  exact call_list_seq p (.inr rfl) ho hc hd (fun h' c' kp e=>fin its r' hz h' c' kp e) (by simp only [Qj] <;> omega)
theorem cR:eY X (.type "tuple") (fun xs H Q=>∃ p ys,xs = [.ref p]/\((SqL X.K H p ys/\∀ l,H l=none->Q (.ref l) (upd H l (.tup ys)))∨(SqT X.K H p ys/\Q (.ref p) H))):=by
 intro pins s σ H xs us Q I r h
 obtain ⟨p,ys,rfl,h⟩:=h
 obtain ⟨u,rfl,rx⟩:=jR r
 cases rx
 rcases h with ⟨hq,q⟩ | ⟨hq,q⟩
 ·obtain ⟨its,r',pl,hz⟩:=I.list hq
  have hlen:=r'.length
  refine call_tuple_list pl.isList (fun h' kp=>?_) (by simp only [Qj] <;> omega)
  have I1:Inv X pins σ H { s with heap:=h' }:=I.kept (t':=s.toks) kp
  have I2:Inv X pins σ (upd H h'.objs.size (.tup ys)) { s with heap:=h'.push { cls:=.type "tuple",data:=.seq its.toArray } } :=
   I1.laid (t':=s.toks) (fun b o e=>Qb _ e) (Qh _) (show cJ X.prog X.w _ _ _ (.tup ys) from ⟨hz,its,0,r',Qn _ rfl⟩)
  exact ⟨.ref h'.objs.size,_,I2,rfl,q _ (I1.hok.fresh (Qh _))⟩
 ·obtain ⟨its,r',pl,hz⟩:=I.tuple hq
  exact call_tuple_same pl ⟨.ref p,H,I,rfl,q⟩
def tyV (K:PySem.W.Frag) (T:String) (x:V) (H:Hp):Prop:=match x with
 | .str _=>T = "str"
 | .int _=>T = "int"
 | .ref p => (T = "list" /\ ∃ xs, SqL K H p xs) ∨ (T = "tuple" /\ ∃ xs, SqT K H p xs) ∨
     (T = "dict" /\ ((∃ kvs,H p=some (.dK kvs))∨∃ kvs,H p=some (.dT kvs)))∨(T = "set" /\ ∃ S n,H p=some (.set S n))
 | _=>False
theorem aA6 {pins:List (Addr×Obj)} {σ:St} {H:Hp} {s:Shared} {T:String} {x:V} {v:Value} (I:Inv X pins σ H s) (r:bI x v) (ty:tyV X.K T x H) :
  s.TypeIs v T/\∀ a,v=.ref a->∃ ob,s.heap.get? a=some ob/\ob.dict=none:=by
 cases x with
 | str z =>
  obtain ⟨t,rfl⟩:=r
  cases (show T = "str" from ty)
  exact ⟨typeIs_str s z t,fun _ e=>nomatch e⟩
 | int i =>
  obtain ⟨t,rfl⟩:=r
  cases (show T = "int" from ty)
  exact ⟨typeIs_int s i t,fun _ e=>nomatch e⟩
 | ref p =>
  cases r
  rcases ty with ⟨rfl,xs,hq⟩ | ⟨rfl,xs,hq⟩ | ⟨rfl,hk⟩ | ⟨rfl,S,n,hk⟩
  ·obtain ⟨its,_,pl,_⟩:=I.list hq
   refine ⟨pl.isList.typeIs,fun a e=>?_⟩
   cases e
   obtain ⟨o,n,e,c,hd,_⟩:=pl
   exact ⟨o,e,hd⟩
  ·obtain ⟨o,e,hc,hd⟩:∃ o,s.heap.get? p=some o/\o.cls=.type "tuple" /\ o.dict=none:=by
    rcases hq with hq | ⟨o,_,_,hk,hc,hd,_⟩
    ·obtain ⟨_,its,n,_,e⟩:=hq.ok I.hok
     exact ⟨_,e,rfl,rfl⟩
    ·exact ⟨o,I.kIn p o hk,hc,hd⟩
   refine ⟨⟨o,e,hc⟩,fun a e2=>?_⟩
   cases e2
   exact ⟨o,e,hd⟩
  ·have z:∃ o,s.heap.get? p=some o/\o.ExactDict:=by
    rcases hk with ⟨kvs,hk⟩ | ⟨kvs,hk⟩
    ·obtain ⟨_,_,_,_,o,_,_,e,ex,_⟩:=I.hok p _ hk
     exact ⟨o,e,ex⟩
    ·obtain ⟨_,_,_,_,o,_,_,e,ex,_⟩:=I.hok p _ hk
     exact ⟨o,e,ex⟩
   obtain ⟨o,e,ex⟩:=z
   refine ⟨⟨o,e,ex.1⟩,fun a e2=>?_⟩
   cases e2
   exact ⟨o,e,ex.2.1⟩
  ·obtain ⟨o,_,_,_,e,ex,_⟩:=I.hok p _ hk
   refine ⟨⟨o,e,ex.1⟩,fun a e2=>?_⟩
   cases e2
   exact ⟨o,e,ex.2.1⟩
 | _=>exact False.elim ty
def aFx (K:PySem.W.Frag) (T:String) (r:V->List V->Hp->VK->Prop) (to:TE):TE:=fun σ H Q=>to σ H fun x H1=>tyV K T x H1/\r x [] H1 Q
def tBM (K:PySem.W.Frag) (T:String) (r:V->List V->Hp->VK->Prop) (to:TE) (t:TA):TE:=fun σ H Q=>to σ H fun x H1=>tyV K T x H1/\t σ H1 fun xs H2=>r x xs H2 Q
variable {o e:Expr} {es:List Expr} {to:TE} {t:TA} {name:Str} {apos cpos:Pos} {T id:String} {r:V->List V->Hp->VK->Prop}
theorem aD1 (pa:PlainAttrs T) (slot:Slot T name id) (hty:typeOf (.builtin id)=pure (.type "method_descriptor")) (hm:MtR X id r) (ho:PE X o to)
  (hbase:attributeBase o name X.env (eval o X.env)=eval o X.env:=by rfl) (hline:(apos.endLine==cpos.line)=true:=by rfl):PE X (.Call (.Attribute o name apos) [] [] cpos) (aFx X.K T r to):=by
 intro pins s σ H Q I h
 refine wpAny_Call_method0_late hbase hline (thn (ho pins s σ H _ I h) fun v s1 hx9=>?_)
 obtain ⟨x,H1,I1,r1,ty,q1⟩:=hx9
 obtain ⟨h1,h2⟩:=aA6 I1 r1 ty
 exact ⟨T,id,pa,slot,hty,h1,h2,Calls.callWith_builtin rfl (PySem.evalArgs_none (hm pins s1 σ H1 x [] v [] Q I1 r1 .nil q1))⟩
theorem pN (pa:PlainAttrs T) (slot:Slot T name id) (hty:typeOf (.builtin id)=pure (.type "method_descriptor")) (hm:MtR X id r) (ho:PE X o to) (ha:PA X (e::es) t)
  (hbase:attributeBase o name X.env (eval o X.env)=eval o X.env:=by rfl)
  (hfew:((backTo cpos (starEach (e::es) X.env)).all (fun x=>!x.1) && (backToKw cpos (keywordEach [] X.env)).all (fun x=>x.1.isSome)
   && decide ((e::es).length+([]:List Keyword).length+(if ([]:List Keyword).isEmpty then 0 else 1) < 30))=true:=by rfl)
  (hline:(apos.endLine==cpos.line)=true:=by rfl) (hs:starEach (e::es) X.env=(false,eval e X.env)::starEach es X.env:=by rfl) (hplain:(backTo cpos (starEach es X.env)).any (·.1)=false:=by rfl) :
  PE X (.Call (.Attribute o name apos) (e::es) [] cpos) (tBM X.K T r to t):=by
 intro pins s σ H Q I h
 refine wpAny_Call_method_late hbase hfew hline rfl (thn (ho pins s σ H _ I h) fun v s1 hx9=>?_)
 obtain ⟨x,H1,I1,r1,ty,q1⟩:=hx9
 obtain ⟨h1,h2⟩:=aA6 I1 r1 ty
 refine ⟨T,id,pa,slot,hty,h1,h2,?_⟩
 have hA:=ha cpos pins s1 σ H1 _ I1 q1
 rw [hs] at hA ⊢
 refine Calls.callWith_builtin (by show (false || (backTo cpos (starEach es X.env)).any (·.1))=false; rw [hplain] <;> rfl) (Calls.evalArgs_plain ?_)
 refine thn hA fun us s2 hx9=>?_
 obtain ⟨vs,H2,I2,r2,q2⟩:=hx9
 exact hm pins s2 σ H2 x vs v us Q I2 r1 r2 q2
/- xs.append(e),list.index on a module's tuple .. are MtR facts of 06m -/
end
def MtM (X:Cx) (id:String) (r:V->List V->Hp->VK->Prop):Prop :=
 ∀ (pins:List (Addr×Obj)) (s:Shared) (σ:St) (H:Hp) (x:V) (xs:List V) (v:Value) (us:List Value) (Q:VK),Inv X pins σ H s->bI x v->bF xs us->r x xs H Q ->
  wpAny (model X.prog X.w) X.A (call (.builtin id) (v::us)) (EP X pins σ Q) X.xe s
theorem bF.one {x:V} {us:List Value} (r:bF [x] us):∃ u,us = [u]/\bI x u:=jR r
theorem bF.two {x y:V} {us:List Value} (r:bF [x,y] us):∃ u v,us = [u,v]/\bI x u/\bI y v:=lX r
theorem bF.zero:∀ {us:List Value},bF [] us->us = []
 | _,.nil=>rfl
theorem bF.eraseIdx:∀ {xs:List V} {us:List Value} (i:Nat),bF xs us->bF (xs.eraseIdx i) (us.eraseIdx i)
 | _,_,_,.nil=>.nil
 | _,_,0,.cons _ t=>t
 | _,_,i+1,.cons r t=>.cons r (bF.eraseIdx i t)
theorem bF.reverse {xs:List V} {us:List Value} (h:bF xs us):bF xs.reverse us.reverse:=by
 induction h with
 | nil=>exact .nil
 | cons r t ih=>rw [Zi,Zi]; exact bF.append ih (.cons r .nil)
theorem bF.rep {xs:List V} {us:List Value} (h:bF xs us):∀ k:Nat,bF (List.replicate k xs).flatten (List.replicate k us).flatten
 | 0=>.nil
 | k+1=>by
  rw [Xk,Xk,Zj,Zj]
  exact bF.append h (bF.rep h k)
theorem sN {α:Type}:∀ (l:List α) (i:Nat),(l.eraseIdx i).length<=l.length
 | [],_=>Qh _
 | _::_,0=>Nat.le_succ _
 | _::r,i+1=>Zn (sN r i)
theorem nQ (its:List Value):∀ (k:Nat) (acc:List Value),
  List.foldl (fun x1 x2=>x1++x2) acc.toArray (List.replicate k its.toArray)=(acc++(List.replicate k its).flatten).toArray
 | 0,acc=>by simp
 | k+1,acc=>by
  have e:acc.toArray++its.toArray=(acc++its).toArray:=by simp
  have e2:(acc++its)++(List.replicate k its).flatten=acc++(List.replicate (k+1) its).flatten:=by
   rw [Xk,Zj,List.append_assoc]
  rw [<- e2,<- nQ its k (acc++its),<- e,Xk,List.foldl_cons]
section
variable {X:Cx} {pins:List (Addr×Obj)} {σ:St} {H:Hp} {s:Shared} {l b:Addr} {xs ys zs:List V}
theorem Inv.lset {its its':List Value} {n:Nat} {f:Array Value->Array Value} {t':Nat} (I:Inv X pins σ H s) (hH:H l=some (.lst xs))
  (e:s.heap.get? l=some { cls:=.type "list",data:=.seq its.toArray n }) (hf:f its.toArray=its'.toArray) (hv:bF ys its') (hz:ys.length<=sizeLine) :
  Inv X pins σ (upd H l (.lst ys)) { s with heap:=s.heap.update l (Obj.mapSeq f),toks:=t' }:=by
 have q:=PySem.IsL.update e f
 rw [hf] at q
 refine I.write (x:=l) (e:=l) (by rw [hH]; exact trivial) (.inl rfl) (fun b' u hb hu=>(Xd s.heap (Obj.mapSeq f) (Ne.symm hb)).trans hu) ⟨_,q⟩ ?_
 exact ⟨hz,its',_,hv,q⟩
theorem Inv.lnew {its:List Value} {t':Nat} (I:Inv X pins σ H s) (hv:bF ys its) (hz:ys.length<=sizeLine) :
  Inv X pins σ (upd H s.heap.objs.size (.lst ys)) { s with heap:=s.heap.push { cls:=.type "list",data:=.seq its.toArray },toks:=t' } :=
 I.laid (fun _ _ q=>Qb _ q) (Qh _) ⟨hz,its,0,hv,Qn _ rfl⟩
theorem Inv.fresh (I:Inv X pins σ H s):H s.heap.objs.size=none:=I.hok.fresh (Qh _)
theorem Inv.lstM (I:Inv X pins σ H s) (hH:H l=some (.lst xs)):xs.length<=sizeLine/\∃ (its:List Value) (n:Nat),bF xs its/\xs.length=its.length/\s.heap.get? l=some { cls:=.type "list",data:=.seq its.toArray n }:=by
 obtain ⟨z,its,n,r,e⟩:=I.hok l _ hH
 exact ⟨z,its,n,r,r.length,e⟩
end
section
variable {X:Cx}
def aCx:V->List V->Hp->VK->Prop:=fun x vs H Q=>∃ l xs y,x=.ref l/\vs = [y]/\H l=some (.lst xs)/\xs.length < sizeLine/\Q .non (upd H l (.lst (xs++[y])))
theorem lJ:MtM X "list.append" aCx:=by
 intro pins s σ H x vs v us Q I rx rv h
 obtain ⟨l,xs,y,rfl,rfl,hH,hz,q⟩:=h
 cases rx
 obtain ⟨u,rfl,ru⟩:=rv.one
 obtain ⟨z,its,n,r,hl,e⟩:=I.lstM hH
 refine call_meets F.slot_list_append ⟨_,e,rfl⟩ F.entry_list_append (F.args_list_append_2 _ _) (PySem.list_append l its.toArray n u (by rw [Qj]; omega)) ⟨e,?_⟩
 refine ⟨.non,_,I.lset (its':=its++[u]) hH e (by simp) (r.append (.cons ru .nil)) ?_,rfl,q⟩
 rw [Qv,Jz]
 omega
def aD2:V->List V->Hp->VK->Prop:=fun x vs H Q=>∃ l xs i k y,x=.ref l/\vs = [.int i]/\H l=some (.lst xs)/\-(2^63)<=i/\i < 2^63/\seqIndex? i xs.length=some k/\xs[k]?=some y/\Q y (upd H l (.lst (xs.eraseIdx k)))
theorem aA7:MtM X "list.pop" aD2:=by
 intro pins s σ H x vs v us Q I rx rv h
 obtain ⟨l,xs,i,k,y,rfl,rfl,hH,h1,h2,hk,hy,q⟩:=h
 cases rx
 obtain ⟨u,rfl,ru⟩:=rv.one
 obtain ⟨t,rfl⟩:=ru
 obtain ⟨z,its,n,r,hl,e⟩:=I.lstM hH
 obtain ⟨w,hw,rw'⟩:=r.get hy
 refine call_meets F.slot_list_pop ⟨_,e,rfl⟩ F.entry_list_pop (F.args_list_pop_2 _ _)
  (MeetsSeq.list_pop_at l its.toArray n i t k w (fitsIndex_both h1 h2) (by rw [Qj,<- hl]; exact hk) (by rw [<- Array.getElem?_toList]; exact hw) (by rw [Qj]; omega)) ⟨e,?_⟩
 refine ⟨y,_,I.lset (its':=its.eraseIdx k) hH e ?_ (r.eraseIdx k) ?_,rw',q⟩
 ·show its.toArray.eraseIdxIfInBounds k=(its.eraseIdx k).toArray
  rw [List.eraseIdxIfInBounds_toArray]
 ·have:=sN xs k
  omega
def aD3:V->List V->Hp->VK->Prop:=fun x vs H Q=>∃ l xs,x=.ref l/\vs = []/\H l=some (.lst xs)/\Q .non (upd H l (.lst []))
theorem aA8:MtM X "list.clear" aD3:=by
 intro pins s σ H x vs v us Q I rx rv h
 obtain ⟨l,xs,rfl,rfl,hH,q⟩:=h
 cases rx
 have hus:=rv.zero
 subst hus
 obtain ⟨z,its,n,r,hl,e⟩:=I.lstM hH
 refine call_meets F.slot_list_clear ⟨_,e,rfl⟩ F.entry_list_clear (F.args_list_clear_1 _) (AutoSeq1.list_clear_list_0 l its.toArray n (by rw [Qj]; omega)) ⟨e,?_⟩
 exact ⟨.non,_,I.lset (its':=[]) (ys:=[]) hH e rfl .nil (Jf _),rfl,q⟩
def aFy:R2:=fun x y H Q=>∃ l b xs zs,x=.ref l/\y=.ref b/\H l=some (.lst xs)/\H b=some (.lst zs)/\xs.length+zs.length<=sizeLine/\∀ p,H p=none->Q (.ref p) (upd H p (.lst (xs++zs)))
theorem pO:OpR X (binaryOp .Add) aFy:=by
 intro pins s σ H x y v u Q I rx ry h
 obtain ⟨l,b,xs,zs,rfl,rfl,hH,hB,hz,q⟩:=h
 cases rx
 cases ry
 obtain ⟨z,its,n,r,hl,e⟩:=I.lstM hH
 obtain ⟨z2,its2,n2,r2,hl2,e2⟩:=I.lstM hB
 refine PySem.P.add_list e e2 ?_ (by rw [Qj,Qj]; omega)
 have ea:its.toArray++its2.toArray=(its++its2).toArray:=by simp
 rw [ea]
 exact ⟨.ref _,_,I.lnew (t':=s.toks) (r.append r2) (by rw [Qv]; omega),rfl,q _ I.fresh⟩
theorem yS {α:Type} (xs:List α) (k:Nat):(List.replicate k xs).flatten.length=k*xs.length:=by
 induction k with
 | zero=>simp
 | succ k ih=>rw [Xk,Zj,Qv,ih,Nat.succ_mul,Nat.add_comm]
end
section
variable {prog:Program} {w:World} {A:Around} {E:Value->Shared->Prop} {s:Shared}
end
section
variable {X:Cx}
end
end L2
namespace Att
open PySem PySem.W PySem.Calls PyProof.Rows
theorem oT {P:Params} {h:Heap}:∀ (ns:List Int) (vs:List Value),WellAll P h vs (ns.map WData.int)->IntsAre vs ns:=by
 intro ns
 induction ns with
 | nil =>
  intro vs w
  rw [Zt] at w
  cases w
  exact .nil
 | cons n ns ih =>
  intro vs w
  rw [Jc] at w
  cases w with
  | cons a b =>
   cases a
   exact .cons _ _ (ih _ b)
theorem aAg {l:OpenLaw} {n:Nat} (hn:l.most=some n) {P:Params} {h:Heap} {args:List WData} {vals:List Value}
  (hpre:l.row.toRowW.claim.pre args=true) (hwl:WellAll P h vals args) :
  ∃ a vs ns,vals = [Value.ref a]/\args = [WData.list (ns.map WData.int)]/\h.get? a=some { cls:=.type "list",data:=.seq vs.toArray }/\IntsAre vs ns/\ns.length<=n:=by
 have hsh:WShape.hasAll [] args [.list .int]=true:=(pre_splitW hpre).1
 have hc:l.pre.holds [] { args:=args }=true:=(pre_splitW hpre).2
 obtain ⟨d,r,rfl,h1,h2⟩:=hasAllW_cons hsh
 obtain rfl:=hasAllW_nil h2
 obtain ⟨xs,rfl,h3⟩:=hasW_list h1
 obtain ⟨ns,rfl⟩:=items_int h3
 have hlen:ns.length<=n:=by
  unfold OpenLaw.pre at hc
  have h4:(WTm.not (.lt (.lit (.int (n:Int))) (.len (.arg 0)))).holds [] { args:=[.list (ns.map .int)] }=true:=by
   have h4:=(holds_andW hc).1
   rw [hn] at h4
   exact h4
  have h5:=condW_of h4 (w_not (w_lt w_lit (w_len_list (w_arg rfl))))
  rw [Qa] at h5
  refine Nat.le_of_not_lt fun q=>?_
  have q':(n:Int) < ((ns.length:Nat):Int):=by omega
  first
   | (rw [decide_eq_true q'] at h5; exact absurd h5 (by decide))
   | (simp at h5; omega)
 cases hwl with
 | cons w1 w2 =>
  cases w2
  cases w1 with
  | list ho hall=>exact ⟨_,_,ns,rfl,rfl,ho,oT ns _ hall,hlen⟩
theorem aAh (l:OpenLaw) (args:List WData):l.row.toRowW.claim.post args (.bool true) args=true :=
 postW_of (r:=l.row.toRowW) (X:=(true==true))
  (show WShape.has [] (.bool true) .bool=true by first | rfl | decide | simp [WShape.has,WShape.arms,WShape.armsAll])
  (show (WTm.eq .res (.lit (.bool true))).value [] { args:=args,res:=some (.bool true),after:=args }=some (.bool (true==true)) from w_eq_bool (w_res rfl) w_lit) rfl
theorem attach_call {l:OpenLaw} {n:Nat} {q:Program} {loose:List Str} {XP:(Str->Option Value)->Heap->Prop} {YP:World->Heap->Prop} {d:DefRec}
  (hn:l.most=some n) (hdf:d.params.defaults = [])
  (call:∀ (w:World) (s₀ s₁:Shared) (mg mb:Str->Option Value) (fa:Addr) (o:Obj) (pm cd doc:Value) (a:Addr) (vs:List Value) (ns:List Int),
   Ground q loose [] XP w s₀ mg mb s₁.heap->YP w s₁.heap ->
   s₁.heap.get? fa=some o->o.data=.func (docDef d.name d.params d.body d.scope pm cd doc)->s₁.heap.CodeRec cd d.name->mg d.name=some (.ref fa) ->
   s₁.heap.get? a=some { cls:=.type "list",data:=.seq vs.toArray }->IntsAre vs ns->ns.length<=n->s₁.gens = #[] ->
   codeAny (model l.prog w) callerA (.call (.ref fa) ⟨[.ref a],[]⟩) (fun r s'=>r=.ok (.ret (.bool true))/\OldK s₁.heap s'.heap/\s'.os=s₁.os/\AllBare s'.gens) s₁) :
  WalkO q loose XP YP l.row.toRowW d [] (fun f vs=>PySem.call f vs):=by
 intro w s₀ s₁ mg mb G Y fa o pm cd doc dV kV ho hd hcd hD hmg hg args vals as hpre hlay hrd hwl hlo
 obtain rfl:dV=.none:=Dflts.none hD hdf
 obtain rfl:kV=.none:=Dflts.noKw hD
 obtain ⟨a,vs,ns,rfl,rfl,hobj,hints,hlen⟩:=aAg hn hpre hwl
 refine enter_call (codeAny_mono (call w s₀ s₁ mg mb fa o pm cd doc a vs ns G Y ho (fd_plain hd) hcd hmg hobj hints hlen hg) fun r s' hq=>?_)
 obtain ⟨rfl,h2,h3,h4⟩:=hq
 exact ⟨.inl ⟨.bool true,.bool true,[],rfl,fun _=>rfl,.bool true,aAh l _,fun _=>⟨List.Pairwise.nil,fun _ hm=>(nomatch hm)⟩⟩,h2,h3,h4⟩
section
variable {prog:Program} {w:World} {A:Around} {E:Value->Shared->Prop} {s:Shared} {K:Frag}
end
end Att
namespace L2
open PySem PySem.Spec PyProof.Rows
theorem sO:∀ {vs:List Value} {ns:List Int},IntsAre vs ns->bF (ns.map V.int) vs
 := by
 intro vs ns h
 induction h with
 | nil=>exact .nil
 | cons n t h ih=>exact .cons ⟨t,rfl⟩ ih
def aD4 (H:Hp):Prop:=∀ b,H b=none∨∃ o xs,H b=some (.frz o (.lst xs))
theorem aA9 {P:Program} {w:World} {K:PySem.W.Frag} {mg mb:Str->Option Value} {CX:CXT} {k:Nat} {fa a:Addr} {fd:FuncData} {x:Str} {sp:Sp} {s₁:Shared} {vs:List Value} {ns:List Int}
  (KX:K.In s₁.heap) (hns:s₁.heap.Ns mainGlobals mg) (hb:s₁.heap.Ns builtinsNs mb) (hbb:∀ x:Str,x ≠ "__name__" -> mb x=bootBuiltins x) (hlim:s₁.heap.NoLimit) (hmod:∃ mm,s₁.heap.Ns sysModules mm) (hg:s₁.gens = #[])
  (ha:s₁.heap.get? a=some { cls:=.type "list",data:=.seq vs.toArray }) (hi:IntsAre vs ns) (hl:ns.length<=sizeLine) (hr:Room k callerA)
  (F:∀ base:Heap,K.In base->base.Ns mainGlobals mg->FnOk P w K mg base CX k fa fd [x] sp) (hbind:∀ (s:Shared) (u:Value),BindsTo s fd ⟨[u],[]⟩ [(x,u)])
  (hsp:∀ H:Hp,aD4 H->SqL K H a (ns.map V.int)->sp [.ref a] H (fun v _=>v=.bl true) fun _ _ _=>False)
  (hCX:∀ H e s',CX [] H s₁ (fun _ _ _=>False) e s'->False) :
  codeAny (model P w) callerA (.call (.ref fa) ⟨[.ref a],[]⟩) (fun r s'=>r=.ok (.ret (.bool true))/\OldK s₁.heap s'.heap/\s'.os=s₁.os/\AllBare s'.gens) s₁:=by
 have rv:=sO hi
 have lenV:=hi.length
 -- from an abstract heap in which nothing but the script may be tracked
 have core:∀ H:Hp,aD4 H->SqL K H a (ns.map V.int)->HOk P w H s₁.heap->(∀ b,H b≠none->b=a)->(H a≠none->K.lookup a=none) ->
   codeAny (model P w) callerA (.call (.ref fa) ⟨[.ref a],[]⟩) (fun r s'=>r=.ok (.ret (.bool true))/\OldK s₁.heap s'.heap/\s'.os=s₁.os/\AllBare s'.gens) s₁:=by
  intro H hO hS hok hA hK
  have base_of:∀ {b:Addr} {o:Obj},s₁.heap.get? b=some o->H b=none->(tH s₁.heap H).get? b=some o:=fun e n=>aAV e n
  have noA:∀ {b:Addr} {o:Obj} {es:Array DictEntry} {ep:Nat},s₁.heap.get? b=some o->o.data=.dict es ep->H b=none:=fun {b o es ep} e d=>by
   cases q:H b with
   | none=>rfl
   | some u =>
    have e':b=a:=hA b (by rw [q]; simp)
    subst e'
    rw [ha] at e; cases e
    have d':Data.seq vs.toArray _=Data.dict es ep:=d
    cases d'
  have nsK:∀ {b:Addr} {m:Str->Option Value},s₁.heap.Ns b m->(tH s₁.heap H).Ns b m:=fun {b m} ⟨o,es,ep,e,d,r⟩=>⟨o,es,ep,base_of e (noA e d),d,r⟩
  have hKb:K.In (tH s₁.heap H):=fun b o e=>base_of (KX b o e) (by
   cases q:H b with
   | none=>rfl
   | some u =>
    have e':b=a:=hA b (by rw [q]; simp)
    subst e'
    rw [hK (by rw [q]; simp)] at e; cases e)
  have hM:Mod K mg (tH s₁.heap H):=⟨hKb,nsK hns,⟨mb,nsK hb,hbb⟩,let ⟨mc,h1,h2⟩:=hlim; ⟨mc,nsK h1,h2⟩,let ⟨mm,h1⟩:=hmod; ⟨mm,nsK h1⟩⟩
  have e0:Env0 P w K mg (tH s₁.heap H) callerA [] s₁ H:=⟨rfl,hM,fun b o e=>aCm e,Nat.le_of_eq (aAa _ _),trivial,fun b hb=>absurd (show b∈([]:List Addr) from hb) (by simp),hok,.of_eq hg⟩
  refine codeAny_mono ((F _ hKb (nsK hns)).run callerA [] s₁ H ⟨[.ref a],[]⟩ [.ref a] [.ref a] _ _ hr e0 (hbind s₁ (.ref a)) (.cons rfl .nil) (hsp H hO hS)) fun r s' h=>?_
  cases r with
  | error e=>exact (hCX H e s' h).elim
  | ok fl =>
   cases fl with
   | next=>exact False.elim h
   | brk=>exact False.elim h
   | cont=>exact False.elim h
   | ret u =>
    obtain ⟨v,H',os,bare,un,hok',r',q⟩:=h
    have q':v=.bl true:=q
    subst q'
    obtain rfl:u=Value.bool true:=r'
    refine ⟨rfl,OldK.of_keep fun b o e=>?_,os,bare⟩
    cases q:H b with
    | none=>exact un.keep b o e q (by intro z; exact absurd (show b∈([]:List Addr) from z) (by simp)) (by simp)
    | some u =>
     rcases hO b with z | ⟨ob,xs,z⟩
     ·rw [q] at z; cases z
     ·have z2:=un.frzs b ob _ z
      obtain ⟨e1,_⟩:=hok b _ z
      obtain ⟨e2,_⟩:=hok' b _ z2
      rw [e] at e1; cases e1
      exact e2
 cases hk:K.lookup a with
 | some o =>
  -- the script is one of the module's own objects
  have e:=KX a o hk
  rw [ha] at e
  cases e
  refine core (fun _=>none) (fun _=>.inl rfl) (.inr ⟨_,vs.toArray,_,hk,rfl,rfl,rfl,by rw [Qj,lenV]; exact hl,by simpa using rv⟩) (fun b u z=>by have z':(none:Option HO)=some u:=z; cases z') (fun b z=>absurd rfl z) fun z=>absurd rfl z
 | none =>
  refine core (fun b=>if b=a then some (.frz { cls:=.type "list",data:=.seq vs.toArray } (.lst (ns.map V.int))) else none) (fun b=>?_) (.inl (.inr ⟨{ cls:=.type "list",data:=.seq vs.toArray },if_pos rfl⟩)) (fun b u z=>?_) (fun b z=>?_) fun _=>hk
  ·by_cases hb:b=a
   ·exact .inr ⟨_,_,if_pos hb⟩
   ·exact .inl (if_neg hb)
  ·by_cases hb:b=a
   ·have z':=(if_pos hb).symm.trans z
    cases z'
    subst hb
    exact ⟨ha,by rw [Qa]; exact hl,vs,_,rv,ha⟩
   ·have z':=(if_neg hb).symm.trans z
    cases z'
  ·by_cases hb:b=a
   ·exact hb
   ·exact absurd (if_neg hb) z
theorem aCy {l:PySem.W.OpenLaw} {n k:Nat} {q:Program} {loose:List Str} {XP:(Str->Option Value)->Heap->Prop} {YP:World->Heap->Prop} {d:DefRec} {K:Params->PySem.W.Frag} {CX:World->CXT} {sp:World->Sp} {x:Str}
  (hn:l.most=some n) (hn2:n<=sizeLine) (hdf:d.params.defaults = []) (hr:Room k callerA) (hq:importsNone q=true)
  (hY:∀ (w:World) (h:Heap),YP w h->(K w.params).In h)
  (F:∀ (w:World) (mg:Str->Option Value) (fa:Addr) (h:Heap),(K w.params).In h->h.Ns mainGlobals mg->mg d.name=some (.ref fa) ->
   ∃ fd:FuncData,(∀ (s:Shared) (u:Value),BindsTo s fd ⟨[u],[]⟩ [(x,u)]) /\
    ∀ base:Heap,(K w.params).In base->base.Ns mainGlobals mg->FnOk l.prog w (K w.params) mg base (CX w) k fa fd [x] (sp w))
  (hsp:∀ (w:World) (H:Hp) (a:Addr) (ns:List Int),ns.length<=n->aD4 H->SqL (K w.params) H a (ns.map V.int)->sp w [.ref a] H (fun v _=>v=.bl true) fun _ _ _=>False)
  (hCX:∀ (w:World) (H:Hp) (s:Shared) (e:Value) (s':Shared),CX w [] H s (fun _ _ _=>False) e s'->False) :
  PySem.W.WalkO q loose XP YP l.row.toRowW d [] (fun f vs=>PySem.call f vs):=by
 refine Att.attach_call hn hdf fun w s₀ s₁ mg mb fa o pm cd doc a vs ns G Y ho hd hcd hmg hobj hints hlen hg=>?_
 have KX:=hY w _ Y
 obtain ⟨fd,hb,hF⟩:=F w mg fa _ KX G.T.g hmg
 exact aA9 KX G.T.g G.T.b G.T.builtins G.T.nolimit (let ⟨mm,h1,_⟩:=(G.T.seer hq).mods; ⟨mm,h1⟩) hg hobj hints (Qt hlen hn2) hr hF hb (fun H hO hS=>hsp w H a ns hlen hO hS) fun H e s'=>hCX w H s₁ e s'
def lK (s:Stmt):Arguments:=match s with
 | .FunctionDef _ a _ _ _ _ _ _ _ _=>a
 | _=>{ posonlyargs:=[],args:=[],vararg:=none,kwonlyargs:=[],kw_defaults:=[],kwarg:=none,defaults:=[] }
def gK (s:Stmt):List Stmt:=match s with
 | .FunctionDef _ _ b _ _ _ _ _ _ _=>b
 | _=>[]
def aF (s:Stmt):Scope:=match s with
 | .FunctionDef _ _ _ _ _ _ sc _ _ _=>sc
 | _=>{ kind:=.function,names:=[],isGenerator:=false,isCoroutine:=false }
abbrev CX0:CXT:=fun _ _ _ _ _ _=>False
abbrev E0:XK:=fun _ _ _=>False
theorem aET {X:Cx}:xL CX0 X E0:=fun _ _ _ _ _ _ _ h=>h.elim
structure Fun (K:PySem.W.Frag) (x qual:Str) (st:Stmt) (f:Addr) (fd:FuncData):Prop where
 ex:∃ (oc:Value) (od:Option Addr) (kV doc pm:Value) (an:Option Addr) (cdv ct:Value) (osl:Array (Option Value)),
  fd=PySem.W.fnOf x qual (lK st) (gK st) (aF st) .none kV doc pm an cdv ct/\K.lookup f=some ⟨oc,od,.func fd,osl⟩/\PySem.W.codeIn K cdv qual=true
 kp:PySem.W.keepIn K (.ref f)=true
section
variable {P:Program} {w:World} {K:PySem.W.Frag} {mg:Str->Option Value} {base:Heap}
theorem Fun.ok {x qual:Str} {st:Stmt} {f:Addr} {fd:FuncData} {N ps:List Str} {k:Nat} {sp:Sp} (F:Fun K x qual st f fd) (S:FnScope N ps (aF st)) (len:∀ vs H Q E,sp vs H Q E->vs.length=ps.length)
  (hbody:∀ (cdv:Value) (A:Around) (outer:List Env) (s:Shared) (H:Hp) (vs:List V) (Q:VK) (E:XK),Room k (A.deeper (envOfC qual (aF st) s.heap.objs.size f cdv))->sp vs H Q E ->
   ∃ t,PSs (aAe CX0 P w K mg base N qual (aF st) f cdv A outer s H E).nox (gK st) t/\t { nx:=fun _ H'=>Q .non H',rt:=Q } (start N vs) H):FnOk P w K mg base CX0 (k+1) f fd ps sp:=by
 obtain ⟨oc,od,kV,doc,pm,an,cdv,ct,osl,rfl,lk,hcd⟩:=F.ex
 refine aEN lk hcd S len fun A outer s H vs Q E hr hsp=>?_
 obtain ⟨t,h,q⟩:=hbody cdv A outer s H vs Q E hr hsp
 exact ⟨t,h.nox,q⟩
theorem Fun.binds {x qual:Str} {st:Stmt} {f:Addr} {fd:FuncData} {ps:List Str} (F:Fun K x qual st f fd)
  (h:∀ (kV doc pm:Value) (an:Option Addr) (cdv ct:Value) (us:List Value),us.length=ps.length->bindArgs (PySem.W.fnOf x qual (lK st) (gK st) (aF st) .none kV doc pm an cdv ct) ⟨us,[]⟩=pure (ps.zip us)):sI K fd ps []:=by
 obtain ⟨oc,od,kV,doc,pm,an,cdv,ct,osl,rfl,lk,hcd⟩:=F.ex
 exact .all (h kV doc pm an cdv ct)
theorem aD5 {x qual:Str} {st:Stmt} {f:Addr} {oc:Value} {od an:Option Addr} {osl:Array (Option Value)} {kV doc pm cdv ct:Value} (l:K.lookup f=some ⟨oc,od,.func (PySem.W.fnOf x qual (lK st) (gK st) (aF st) .none kV doc pm an cdv ct),osl⟩)
  (c:PySem.W.codeIn K cdv qual=true) (k:PySem.W.keepIn K (.ref f)=true):Fun K x qual st f (PySem.W.fnOf x qual (lK st) (gK st) (aF st) .none kV doc pm an cdv ct):=⟨⟨oc,od,kV,doc,pm,an,cdv,ct,osl,rfl,l,c⟩,k⟩
end
theorem kR {A:Around} {k:Nat} (hr:Room k A):A.units+1 < cLine:=Zd (Nat.add_le_add_left (by decide:1<=64) _) hr.units
section
variable {X:Cx}
theorem pv (i:Nat) {x:Str} {pos:Pos} (hN:X.N[i]?=some x:=by rfl) (hv:Vis X.env.scope x:=by first | exact Or.inl rfl | exact Or.inr (Or.inl rfl) | exact Or.inr (Or.inr rfl)) (hd:(x==("__debug__" : Str))=false:=by decide)
  (hcd:(x==("__classdict__" : Str))=false:=by decide):PE X (.Name x pos) (aEr i):=aDN hN hv hd hcd
end
theorem eF {A B:Prop} (h:B):if false=true then A else B:=by
 rw [if_neg Qz]
 exact h
theorem iT {A B:Prop} (h:A):if true=true then A else B:=by
 rw [if_pos rfl]
 exact h
theorem iM {c A B:Prop} [Decidable c] (h1:c->A) (h2:¬ c->B):if c then A else B:=by
 by_cases h:c
 ·rw [if_pos h]
  exact h1 h
 ·rw [if_neg h]
  exact h2 h
def aC (H H':Hp):Prop:=∀ b o,H b=some o->H' b=some o
theorem aC.refl (H:Hp):aC H H:=fun _ _ h=>h
theorem aC.trans {H H1 H2:Hp} (a:aC H H1) (b:aC H1 H2):aC H H2:=fun c o h=>b c o (a c o h)
theorem aC.free {H H':Hp} (e:aC H H') {l:Addr} (h:H' l=Option.none):H l=Option.none:=by
 cases q:H l with
 | none=>rfl
 | some o =>
  rw [e l o q] at h
  cases h
theorem aC.seq {K:PySem.W.Frag} {H H':Hp} {a:Addr} {xs:List V} (e:aC H H') (h:SqL K H a xs):SqL K H' a xs:=by
 rcases h with (h | ⟨o,h⟩) | h
 ·exact .inl (.inl (e _ _ h))
 ·exact .inl (.inr ⟨o,e _ _ h⟩)
 ·exact .inr h
def cN (env:Env):List (Str×NameKind)->List (Str×Addr)->List (Str×Addr)
 | [],acc=>acc
 | (n,k)::r,acc=>if k==.free then (match env.cells.lookup n with | some c=>cN env r ((n,c)::acc) | none=>cN env r acc) else cN env r acc
theorem vJ {env:Env}:∀ (names:List (Str×NameKind)) (acc:List (Str×Addr)),(∀ y∈names,y.2=.free->∃ c,env.cells.lookup y.1=some c) ->
  (forIn names acc fun (x:Str×NameKind) (r:List (Str×Addr))=>(match x with
   | (name,kind)=>if (kind==NameKind.free)=true then (do let a<-cellOf env name; pure (ForInStep.yield ((name,a)::r))) else pure (ForInStep.yield r):Sem (ForInStep (List (Str×Addr)))))=(pure (cN env names acc):Sem _)
 | [],acc,_=>rfl
 | (n,k)::r,acc,h=>by
  have ih:=fun acc=>vJ r acc fun y hy=>h y (Qq _ hy)
  rw [Xw]
  by_cases hk:(k==NameKind.free)=true
  ·obtain ⟨c,hc⟩:=h (n,k) Qk (by simpa using hk)
   have e1:cN env ((n,k)::r) acc=cN env r ((n,c)::acc):=by
    show (if k==.free then _ else _)=_
    rw [if_pos hk]; simp only at hc; rw [hc]
   simp only at hc
   rw [e1,<- ih]
   simp only [hk,if_true,cellOf,hc]
   rfl
  ·have e1:cN env ((n,k)::r) acc=cN env r acc:=by
    show (if k==.free then _ else _)=_
    rw [if_neg hk]
   rw [e1,<- ih]
   simp only [hk,if_false]
   rfl
theorem aBa {env:Env} {scope:Scope} (h:∀ y∈scope.names,y.2=.free->∃ c,env.cells.lookup y.1=some c):closureFor scope env=pure (cN env scope.names []):=by
 unfold closureFor
 have e:=vJ scope.names [] h
 show (forIn scope.names [] _ >>= _)=_
 exact (congrArg (fun z=>z >>= fun r=>pure r) e).trans rfl
theorem hZ {env:Env}:∀ (names:List (Str×NameKind)) (acc:List (Str×Addr)) (n:Str) (c:Addr),(n,c)∈cN env names acc->(n,c)∈acc∨env.cells.lookup n=some c
 | [],_,_,_,h=>.inl h
 | (m,k)::r,acc,n,c,h=>by
  by_cases hk:(k==NameKind.free)=true
  ·rw [show cN env ((m,k)::r) acc=(match env.cells.lookup m with | some c=>cN env r ((m,c)::acc) | none=>cN env r acc) from if_pos hk] at h
   cases e:env.cells.lookup m with
   | none=>rw [e] at h; exact hZ r acc n c h
   | some d =>
    rw [e] at h
    rcases hZ r _ n c h with q | q
    ·rcases Ql.mp q with q | q
     ·cases q; exact .inr e
     ·exact .inl q
    ·exact .inr q
  ·rw [show cN env ((m,k)::r) acc=cN env r acc from if_neg hk] at h
   exact hZ r acc n c h
theorem iU {env:Env}:∀ (names:List (Str×NameKind)) (acc:List (Str×Addr)) (n:Str),((∃ c,(n,c)∈acc)∨((n,NameKind.free)∈names/\∃ c,env.cells.lookup n=some c))->∃ c,(n,c)∈cN env names acc
 | [],_,_,h=>by
  rcases h with h | ⟨h,_⟩
  ·exact h
  ·cases h
 | (m,k)::r,acc,n,h=>by
  by_cases hk:(k==NameKind.free)=true
  ·rw [show cN env ((m,k)::r) acc=(match env.cells.lookup m with | some c=>cN env r ((m,c)::acc) | none=>cN env r acc) from if_pos hk]
   cases e:env.cells.lookup m with
   | none =>
    refine iU r acc n ?_
    rcases h with h | ⟨h,c,hc⟩
    ·exact .inl h
    ·rcases Ql.mp h with h | h
     ·cases h; rw [e] at hc; cases hc
     ·exact .inr ⟨h,c,hc⟩
   | some d =>
    refine iU r _ n ?_
    rcases h with ⟨c,h⟩ | ⟨h,c,hc⟩
    ·exact .inl ⟨c,Qq _ h⟩
    ·rcases Ql.mp h with h | h
     ·cases h; exact .inl ⟨d,Qk⟩
     ·exact .inr ⟨h,c,hc⟩
  ·rw [show cN env ((m,k)::r) acc=cN env r acc from if_neg hk]
   refine iU r acc n ?_
   rcases h with h | ⟨h,c,hc⟩
   ·exact .inl h
   ·rcases Ql.mp h with h | h
    ·cases h; exact absurd rfl hk
    ·exact .inr ⟨h,c,hc⟩
theorem dJ {β:Type}:∀ {l:List (Str×β)} {a:Str} {b:β},l.lookup a=some b->(a,b)∈l:=PySem.mem_of_lookup_some
theorem iA {β:Type}:∀ {l:List (Str×β)} {a:Str} {b:β},(a,b)∈l->∃ c,l.lookup a=some c
 | (k,v)::l,a,b,h=>by
  rw [Jx]
  by_cases e:(a==k)=true
  ·rw [e]; exact ⟨v,rfl⟩
  ·have e':(a==k)=false:=by simpa using e
   rw [e']
   rcases Ql.mp h with h | h
   ·cases h; simp at e
   ·exact iA h
theorem fJ {env:Env} (x:Str):∀ (names:List (Str×NameKind)),
  (names.map fun (n,k)=>if (k==NameKind.free && env.scope.kind==.function && env.kindOf n==some .cell) then (n,NameKind.cell) else (n,k)).lookup x =
   (names.lookup x).map fun k=>if (k==NameKind.free && env.scope.kind==.function && env.kindOf x==some .cell) then NameKind.cell else k
 | []=>rfl
 | (n,k)::r=>by
  have ih:=fJ (env:=env) x r
  rw [Jc]
  by_cases e:(x==n)=true
  ·have en:x=n:=by simpa using e
   subst en
   dsimp only
   by_cases c:(k==NameKind.free && env.scope.kind==.function && env.kindOf x==some .cell)=true
   ·rw [if_pos c,Jx,Jx,e]
    simp only [Xa,c,if_true]
   ·rw [if_neg c,Jx,Jx,e]
    simp only [Xa,c]
    rfl
  ·have e':(x==n)=false:=by simpa using e
   dsimp only
   by_cases c:(k==NameKind.free && env.scope.kind==.function && env.kindOf n==some .cell)=true
   ·rw [if_pos c,Jx,Jx,e']; exact ih
   ·rw [if_neg c,Jx,Jx,e']; exact ih
def aX (X:Cx) (scope:Scope) (N:List Str) (C:Addr) (s0:Shared) (H0:Hp) (fp:List Addr):Cx where
 prog:=X.prog
 w:=X.w
 K:=X.K
 mg:=X.mg
 base:=X.base
 A:=X.A
 N:=N
 s₀:=s0
 H₀:=H0
 env:=compEnvC scope (cN X.env scope.names []) C X.env
 outer:=X.stack
 stack:=X.stack
 ex:=fp
 fn:=fun _=>false
 calm:=X.calm
 pn:=[]
 xe:=fun _ _=>False
def nR (sc scope:Scope) (own:List Str) (frn:List Str):Bool :=
 scope.kind==.function && scope.names.all (fun y=>y.2 !=.cell) && scope.names.all (fun y=>y.2 !=.local || scope.names.lookup y.1==some .local) &&
 scope.names.all (fun y=>y.2 !=.free || sc.names.lookup y.1==some .cell || sc.names.lookup y.1==some .free) && decide (own++frn).Nodup &&
 own.all (fun x=>scope.names.lookup x==some .local) && frn.all (fun x=>scope.names.lookup x==some .free)
def blk (own:Nat) (fr:List Nat) (σ:St):St:=List.replicate own none++fr.map fun j=>(σ[j]?).join
structure CompOk (X:Cx) (scope:Scope) (own:List Str) (fr:List Nat) (frn:List Str):Prop where
 ck:nR X.env.scope scope own frn=true
 ix:∀ (k:Nat) (x:Str),frn[k]?=some x->∃ j:Nat,fr[k]?=some j/\X.N[j]?=some x
 len:fr.length=frn.length
section
variable {X:Cx} {scope:Scope} {own frn:List Str} {fr:List Nat}
theorem CompOk.parts (S:CompOk X scope own fr frn):scope.kind=.function/\(∀ y∈scope.names,y.2≠.cell)/\(∀ y∈scope.names,y.2=.local->scope.names.lookup y.1=some .local) /\
  (∀ y∈scope.names,y.2=.free->X.env.scope.names.lookup y.1=some .cell∨X.env.scope.names.lookup y.1=some .free)/\(own++frn).Nodup/\(∀ x∈own,scope.names.lookup x=some .local)/\∀ x∈frn,scope.names.lookup x=some .free:=by
 have h:=S.ck
 unfold nR at h
 simp only [Jj,Qu,decide_eq_true_eq,Bool.or_eq_true,bne_iff_ne,ne_eq,beq_iff_eq] at h
 obtain ⟨⟨⟨⟨⟨⟨h1,h2⟩,h3⟩,h4⟩,h5⟩,h6⟩,h7⟩:=h
 refine ⟨h1,h2,fun y hy e=>?_,fun y hy e=>?_,h5,h6,h7⟩
 ·rcases h3 y hy with z | z
  ·exact absurd e z
  ·exact z
 ·rcases h4 y hy with (z | z) | z
  ·exact absurd e z
  ·exact .inl z
  ·exact .inr z
theorem xN (S:CompOk X scope own fr frn) (σ:St):(blk own.length fr σ).length=(own++frn).length:=by
 unfold blk
 rw [Qv,Qv,Xg,Qa,S.len]
theorem vK {pins:List (Addr×Obj)} {σ:St} {H:Hp} {s:Shared} {fp:List Addr} {h1:Heap} {tk:Nat} {C D:Addr} {oD:Obj} {m:Str->Option Value} (I:Inv X pins σ H s) (S:CompOk X scope own fr frn)
  (hfp:∀ b∈fp,iL X pins H b) (hlt:∀ b∈fp,b < s.heap.objs.size) (hC:s.heap.objs.size<=C) (hn:h1.Ns C m) (hk:∀ b o,s.heap.get? b=some o->h1.get? b=some o)
  (hD:s.heap.objs.size<=D) (hDC:D≠C) (hoD:h1.get? D=some oD) (hdD:∀ v,oD.data≠.cell v) :
  Inv (aX X scope (own++frn) C s H fp) [(D,oD)] (blk own.length fr σ) H { s with heap:=h1,toks:=tk }:=by
 obtain ⟨p1,p2,p3,p4,p5,p6,p7⟩:=S.parts
 have below:∀ b,b < s.heap.objs.size->b≠C:=fun b hb z=>Qy _ (Qi (z ▸ hb) hC)
 have clsub:∀ x c,(cN X.env scope.names []).lookup x=some c->X.env.cells.lookup x=some c:=fun x c e=>by
  rcases hZ _ _ _ _ (dJ e) with q | q
  ·cases q
  ·exact q
 have clt:∀ x c,X.env.cells.lookup x=some c->c < s.heap.objs.size:=fun x c e=>by
  obtain ⟨v,q⟩:=I.cell x c e
  exact q.lt
 have nstk:∀ b∈fp,b∉frs X.stack:=fun b hb z=>by
  obtain ⟨_,f1,f2,_⟩:=hfp b hb
  rcases Ql.mp (I.stkSub b z) with e | e
  ·exact f1 e
  ·exact f2 e
 have Dfs:D∉frs X.stack:=fun z=>by
  have q:=I.stkSub D z
  rcases Ql.mp q with e | e
  ·exact Qy _ (Qi (e ▸ I.lt:D < _) hD)
  ·exact I.nofs hD e
 refine ⟨⟨I.ok.mod,p1,I.ok.glob,I.ok.blt,hC,fun x y c e1 e2=>I.ok.inj x y c (clsub x c e1) (clsub y c e2),fun x hx=>?_,fun x c e=>absurd e (by show ¬ (false=true); decide),I.ok.hd,I.ok.frames,.inl rfl,fun b hb=>?_,I.bs,Qt I.ok.bsz I.sz,fun b o e hb=>?_,nstk,I.stack,I.stkFree⟩,
  rfl,I.bare,Un.kept hk,⟨m,hn,fun i x v e1 e2 e3=>?_⟩,fun x c e=>?_,I.hok.fresh hC,fun x c e=>I.freeC x c (clsub x c e),fun p hp=>?_,I.hok.kept hk,xN S σ⟩
 ·-- has
  have hx':(relabel scope X.env).names.lookup x=some .cell∨(relabel scope X.env).names.lookup x=some .free:=hx
  have hl:(relabel scope X.env).names.lookup x=_:=fJ (env:=X.env) x scope.names
  rw [hl] at hx'
  cases e:scope.names.lookup x with
  | none =>
   rw [e] at hx'
   rcases hx' with z | z <;> cases z
  | some k =>
   have hmem:=dJ e
   have hkf:k=.free:=by
    rw [e] at hx'
    simp only [Xa,Option.some.injEq] at hx'
    by_cases c:(k==NameKind.free && X.env.scope.kind==.function && X.env.kindOf x==some .cell)=true
    ·simp only [Jj,beq_iff_eq] at c
     exact c.1.1
    ·rw [if_neg c] at hx'
     rcases hx' with z | z
     ·exact absurd z (p2 _ hmem)
     ·exact z
   subst hkf
   obtain ⟨c,hc⟩:=I.ok.has x (p4 _ hmem rfl)
   obtain ⟨c',hc'⟩:=iU (env:=X.env) scope.names [] x (.inr ⟨hmem,c,hc⟩)
   exact iA hc'
 ·-- exf
  refine ⟨below b (hlt b hb),fun x c e=>?_⟩
  exact (hfp b hb).2.2.2.2.1 x c (clsub x c e)
 ·-- noex
  rcases (hfp b hb).2.2.2.1 with z | z
  ·exact I.ok.noex b o e z
  ·exact absurd (Qi (Qm (I.ok.bs b o e).1) z) (Qy _)
 ·-- loc
  show ∃ u,bI v u/\aDM _ _ _ x u
  have e1':(own++frn)[i]?=some x:=e1
  have e2':(blk own.length fr σ)[i]?=some (some v):=e2
  unfold blk at e2'
  by_cases hi:i < own.length
  ·rw [Jg (by simpa using hi),Xn] at e2'
   rw [if_pos hi] at e2'
   cases e2'
  ·rw [Jn (by simpa using hi)] at e2'
   rw [Jn (by omega)] at e1'
   rw [Xg,Qg] at e2'
   obtain ⟨j,hj1,hj2⟩:=S.ix _ _ e1'
   rw [hj1] at e2'
   simp only [Xa,Option.some.injEq] at e2'
   have hσ:σ[j]?=some (some v):=by
    cases q:σ[j]? with
    | none=>rw [q] at e2'; cases e2'
    | some w=>rw [q] at e2'; exact congrArg some e2'
   have hfree:=p7 x (Qe e1')
   have hmem:=dJ hfree
   have kx:=p4 _ hmem rfl
   have vis:Vis X.env.scope x:=by
    rcases kx with z | z
    ·exact .inr (.inl z)
    ·exact .inr (.inr z)
   obtain ⟨m0,hn0,hl0⟩:=I.loc
   obtain ⟨u,ru,lk⟩:=hl0 j x v hj2 hσ vis
   refine ⟨u,ru,.inr ⟨?_,?_⟩⟩
   ·show (relabel scope X.env).names.lookup x=some .cell∨(relabel scope X.env).names.lookup x=some .free
    have hl:(relabel scope X.env).names.lookup x=_:=fJ (env:=X.env) x scope.names
    rw [hl,hfree]
    simp only [Xa,Option.some.injEq]
    by_cases c:(NameKind.free==NameKind.free && X.env.scope.kind==.function && X.env.kindOf x==some .cell)=true
    ·rw [if_pos c]; exact .inl rfl
    ·rw [if_neg c]; exact .inr rfl
   ·rcases lk with ⟨kl,_⟩ | ⟨_,c,hc,hcell⟩
    ·have kl':X.env.scope.names.lookup x=some .local:=kl
     rcases kx with z | z <;> (have z':X.env.scope.names.lookup x=_:=z; rw [kl'] at z'; cases z')
    ·obtain ⟨c',hc'⟩:=iU (env:=X.env) scope.names [] x (.inr ⟨hmem,c,hc⟩)
     obtain ⟨c2,hc2⟩:=iA hc'
     have ec:c2=c:=by
      have:=clsub x c2 hc2
      rw [hc] at this
      exact (Option.some.inj this).symm
     subst ec
     obtain ⟨oc,ho,hd⟩:=hcell
     exact ⟨c2,hc2,oc,hk _ _ ho,hd⟩
 ·obtain ⟨v,o,ho,hd⟩:=I.cell x c (clsub x c e)
  exact ⟨v,o,hk _ _ ho,hd⟩
 ·have hp':p∈([]:List (Addr×Obj))++[(D,oD)]:=hp
  simp only [Zv,Qs] at hp'
  subst hp'
  exact ⟨hoD,I.hok.fresh hD,hDC,Dfs,hdD⟩
end
theorem oN {prog:Program} {w:World} {A:Around} {R:Result->Shared->Prop} {s:Shared} {elt target iter:Expr} {ifs:List Expr} {scope:Scope} {pos:Pos} {it acc:Value} {env:Env} (I:Nat->Shared->Prop)
  (turn:∀ n s,I n s->wpAny (model prog w) A (pyNext it) (fun r s₁=>match r with
   | none=>R (.ok .next) s₁
   | some v=>wpAny (model prog w) A (letOwnedTupleGo target it v) (fun _ s₁'=>wpAny (model prog w) A (assign target env v) (fun _ s₂ =>
     wpAny (model prog w) A (forIn ifs true fun c r=>if r=true then do let ok<-isTrue c env (eval c env); pure (ForInStep.yield ok) else pure (ForInStep.yield r)) (fun ok s₃ =>
      if ok=true then wpAny (model prog w) A (eval elt env) (fun x s₄ =>
       wpAny (model prog w) A (call (.builtin "list.append") [acc,x]) (fun _ s₅=>∃ m,m < n/\I m s₅) (fun _ _=>False) s₄) (fun _ _=>False) s₃
      else ∃ m,m < n/\I m s₃) (fun _ _=>False) s₂) (fun _ _=>False) s₁') (fun _ _=>False) s₁) (fun _ _=>False) s)
  (n:Nat) (h:I n s) :
  codeAny (model prog w) A (.compLoop (.ListComp elt [⟨target,iter,ifs,0⟩] scope pos) 0 it acc env) R s:=by
 refine codeAny_loop rfl I (fun n s hI=>?_) n h
 show wpAny _ A ((compTurn (.ListComp elt [⟨target,iter,ifs,0⟩] scope pos) 0 it acc env).onRaise (fun x=>do noteFrame x env; theTreesLotGoes x)) _ _ s
 refine wpAny_noted ?_
 rw [compTurn_list]
 refine wpAny_bind (wpAny_standAt (wpAny_bind (wpAny_mono (turn n s hI) (fun r s₁ h₁=>?_) fun _ _ h'=>h'.elim)))
 cases r with
 | none=>exact wpAny_pure h₁
 | some v =>
  refine wpAny_bind (wpAny_mono h₁ (fun _ s₁' h₁'=>?_) fun _ _ h'=>h'.elim)
  refine wpAny_bind (wpAny_mono h₁' (fun _ s₂ h₂=>wpAny_bind (wpAny_mono h₂ (fun ok s₃ h₃=>?_) fun _ _ h'=>h'.elim)) fun _ _ h'=>h'.elim)
  cases ok with
  | false=>exact wpAny_pure ⟨rfl,h₃⟩
  | true =>
   exact wpAny_bind (wpAny_bind (wpAny_mono h₃ (fun x s₄ h₄=>wpAny_bind (wpAny_mono h₄ (fun _ s₅ h₅=>wpAny_pure (wpAny_pure ⟨rfl,h₅⟩)) fun _ _ h'=>h'.elim)) fun _ _ h'=>h'.elim))
def PF (X:Cx) (ifs:List Expr) (t:TT):Prop :=
 ∀ (pins:List (Addr×Obj)) (s:Shared) (σ:St) (H:Hp) (Q:Bool->Hp->Prop),Inv X pins σ H s->t σ H Q ->
  wpAny (model X.prog X.w) X.A (forIn ifs true fun c r=>if r=true then do let ok<-isTrue c X.env (eval c X.env); pure (ForInStep.yield ok) else pure (ForInStep.yield r)) (TP X pins σ Q) X.xe s
def aBb:TT:=fun _ H Q=>Q true H
theorem cI {X:Cx}:PF X [] aBb:=fun _ _ _ H _ I h=>wpAny_tests_nil ⟨H,I,h⟩
theorem jN {X:Cx} {c:Expr} {t:TT} (h:PT X c t):PF X [c] t:=fun pins s σ H Q I hq=>wpAny_tests_one (h pins s σ H Q I hq)
def yT (own:Nat) (fr:List Nat) (wi:TI) (g:TG) (tt:TT) (te:TE):TE:=fun σ H Q=>wi σ H fun J H1=>∃ W:Nat->Nat->List V->St->Hp->Prop,(∃ m,W 0 m [] (blk own fr σ) H1)/\∀ i m ys σ' H,W i m ys σ' H ->
 (J.stop i H/\∀ p,H p=none->Q (.ref p) (upd H p (.lst ys))) ∨
 (J.go i H/\∃ N:List V->St->Hp->Prop,(∀ ys' σ2 H2,N ys' σ2 H2->∃ m',m' < m/\W (i+1) m' ys' σ2 H2) /\
  ∀ x H',J.yld i H x H'->g x σ' H' fun σ2 H2=>tt σ2 H2 fun b H3=>if b=true then te σ2 H3 fun y H4=>ys.length < sizeLine/\N (ys++[y]) σ2 H4 else N ys σ2 H3)
section
variable {X:Cx} {scope:Scope} {own frn:List Str} {fr:List Nat} {elt tg iter:Expr} {ifs:List Expr} {pos:Pos} {wi:TI} {g:TG} {tt:TT} {te:TE}
theorem Inv.track {pins:List (Addr×Obj)} {σ:St} {H:Hp} {s:Shared} {D:Addr} {ys:List V} {its:Array Value} (I:Inv X pins σ H s) (hD:s.heap.PlainList D its) (hv:bF ys its.toList) (hz:ys.length<=sizeLine) (hn:H D=none) (hL:D≠X.env.locals)
  (h1:X.s₀.heap.objs.size<=D) (h2:∀ x c,X.env.cells.lookup x=some c->c≠D) (h3:∀ p∈X.pn++pins,p.1≠D):Inv X pins σ (upd H D (.lst ys)) s:=by
 have ne:∀ b u,H b=some u->b≠D:=fun b u e z=>by rw [z,hn] at e; cases e
 refine I.step (g':=s.gens) (d':=s.drawn) (t':=s.toks) (h':=s.heap) (ch:=[D]) (fun b hb=>?_) (fun b o _ _ _ e _=>e) (fun b o _ _ _ e _=>⟨o.slots,e⟩) (fun b o hc _ n=>?_) (fun b o _ e=>⟨o,e⟩)
  (fun b xs e=>by rw [aG (ne b _ e)]; exact e) (fun b o u e=>by rw [aG (ne b _ e)]; exact e) (fun b ps e=>⟨#[],by rw [aG (ne b _ e),e]; simp⟩) (fun _ h=>h) (fun b u e=>?_) I.bare
 ·have e:b=D:=by simpa using hb
  subst e
  exact ⟨.inr h1,hL,h2,h3⟩
 ·rw [aG (by simpa using hc)]; exact n
 ·by_cases hb:b=D
  ·subst hb
   rw [aB] at e; cases e
   obtain ⟨n,e⟩:=hD
   exact ⟨hz,its.toList,n,hv,by simpa using e⟩
  ·rw [aG hb] at e
   exact (I.hok b u e).stay (fun c v _ q=>q) (fun c q=>by rw [aG (ne c _ q)]; exact q) fun c xs q=>by rw [aG (ne c _ q)]; exact q
theorem pP {pins:List (Addr×Obj)} {σ:St} {H2:Hp} {s2:Shared} {it:Addr} {fp:List Addr} {tn:Nat->Heap->Prop} {J:It} {RR:Value->Addr->Result->Shared->Prop} {E:Value->Shared->Prop} {Q:Hp->List V->Prop}
  (S:CompOk X scope own fr frn) (hc:X.calm=true) (I2:Inv X pins σ H2 s2) (T:Turn X.prog X.w X.K tg J fp it tn) (st2:tn 0 s2.heap) (f2:∀ b∈fp,iL X pins H2 b)
  (hg:∀ C s0 H0 fp,PG (aX X scope (own++frn) C s0 H0 fp) tg g) (ht:∀ C s0 H0 fp,PF (aX X scope (own++frn) C s0 H0 fp) ifs tt) (he:∀ C s0 H0 fp,PE (aX X scope (own++frn) C s0 H0 fp) elt te)
  (w:∃ W:Nat->Nat->List V->St->Hp->Prop,(∃ m,W 0 m [] (blk own.length fr σ) H2)/\∀ i m ys σ' H,W i m ys σ' H ->
   (J.stop i H/\Q H ys) ∨
   (J.go i H/\∃ N:List V->St->Hp->Prop,(∀ ys' σ2 H2,N ys' σ2 H2->∃ m',m' < m/\W (i+1) m' ys' σ2 H2) /\
    ∀ x H',J.yld i H x H'->g x σ' H' fun σ2 H2=>tt σ2 H2 fun b H3=>if b=true then te σ2 H3 fun y H4=>ys.length < sizeLine/\N (ys++[y]) σ2 H4 else N ys σ2 H3))
  (hRR:∀ (C D:Addr) (s':Shared) (H':Hp) (ys:List V) (its:Array Value) (m:Str->Option Value),s2.heap.objs.size<=C->s2.heap.objs.size<=D->D≠C->s'.heap.Ns C m->H' C=none->H' D=none->s'.heap.PlainList D its->bF ys its.toList->ys.length<=sizeLine ->
   Inv X pins σ H' s'->Q H' ys->RR (.ref D) C (.ok .next) s') :
  wpAny (model X.prog X.w) X.A (newList []) (fun acc s₃=>wpAny (model X.prog X.w) X.A (newFunctionEnv scope X.env.globals (cN X.env scope.names []) [] X.env.qual none .none (some X.env)) (fun cenv s₄ =>
   codeAny (model X.prog X.w) X.A (.compStart (.ListComp elt [⟨tg,iter,ifs,0⟩] scope pos) 0 (.ref it) acc { cenv with scope:=relabel scope X.env }) (RR acc cenv.locals) s₄) E s₃) E s2:=by
 obtain ⟨p1,p2,p3,p4,p5,p6,p7⟩:=S.parts
 obtain ⟨W,⟨m0,w0⟩,turn⟩:=w
 refine wpAny_newObj_type (wpAny_newFunctionEnv p2 (by intro y hy; simp at hy) (fun h₁ hns₁ hsb₁=>?_) p1)
 dsimp only at hns₁ hsb₁ ⊢
 generalize hH2:s2.heap.push { cls:=.type "list",dict:=none,data:=.seq ([]:List Value).toArray }=HD at hns₁ hsb₁ ⊢
 have hCs:HD.objs.size=s2.heap.objs.size+1:=by rw [<- hH2,Js]
 have hDC:s2.heap.objs.size≠HD.objs.size:=by omega
 have hCle:s2.heap.objs.size<=HD.objs.size:=by omega
 have below:∀ b,b < s2.heap.objs.size->b≠HD.objs.size/\b≠s2.heap.objs.size:=fun b hb=>⟨by omega,by omega⟩
 have old:∀ b o,s2.heap.get? b=some o->h₁.get? b=some o:=fun b o e=>hsb₁.extBut b o (below b (Qm e)).1 (Qb _ (hH2 ▸ Qb _ e))
 have hacc:h₁.get? s2.heap.objs.size=some { cls:=.type "list",data:=.seq ([]:List Value).toArray }:=hsb₁.extBut _ _ hDC (Qb _ (hH2 ▸ Qn _ rfl))
 have flt:∀ b∈fp,b < s2.heap.objs.size:=fun b hb=>by
  obtain ⟨o,e,_⟩:=T.obj _ _ st2 b hb
  exact Qm e
 generalize hDg:s2.heap.objs.size=D at *
 generalize hCg:HD.objs.size=C at *
 have st3:tn 0 h₁:=T.keep _ _ _ st2 fun b _ o e=>old b o e
 -- facts of the block
 have clsub:∀ x c,(cN X.env scope.names []).lookup x=some c->X.env.cells.lookup x=some c:=fun x c e=>by
  rcases hZ _ _ _ _ (dJ e) with q | q
  ·cases q
  ·exact q
 have cD:∀ x c,(cN X.env scope.names []).lookup x=some c->c≠D:=fun x c e z=>by
  obtain ⟨v,q⟩:=I2.cell x c (clsub x c e)
  exact Qy _ (Qi q.lt (by rw [hDg,z]; exact Qh _))
 have loop:∀ s₃:Shared,s₃={ s2 with heap:=h₁,toks:=s2.toks+([]:List (Str×Value)).length } ->
   codeAny (model X.prog X.w) X.A (.compLoop (.ListComp elt [⟨tg,iter,ifs,0⟩] scope pos) 0 (.ref it) (.ref D) (compEnvC scope (cN X.env scope.names []) C X.env)) (RR (.ref D) C) s₃:=by
  rintro s₃ rfl
  have I3:Inv (aX X scope (own++frn) C s2 H2 fp) [(D,_)] (blk own.length fr σ) H2 { s2 with heap:=h₁,toks:=s2.toks+([]:List (Str×Value)).length } :=
   vK (m:=fun _=>none) I2 S f2 (by rw [hDg]; exact flt) (by rw [hDg]; exact hCle) (hns₁:h₁.Ns C _) old (by rw [hDg]; exact Qh _) hDC hacc (fun v z=>by cases z)
  have stat:∀ {H':Hp} {pl:List (Addr×Obj)},(∀ p∈pl,p.1=D)->(∀ b∈fp,H' b=none)->∀ b∈fp,iL (aX X scope (own++frn) C s2 H2 fp) pl H' b:=fun {H' pl} hpl hn b hb=>by
   refine ⟨hn b hb,(below b (flt b hb)).1,fun z=>?_,.inl hb,fun x c e=>(f2 b hb).2.2.2.2.1 x c (clsub x c e),fun p hp=>?_⟩
   ·have z':b∈frs X.stack:=z
    rcases Ql.mp (I2.stkSub b z') with e | e
    ·exact (f2 b hb).2.1 e
    ·exact (f2 b hb).2.2.1 e
   ·have hp':p∈pl:=by simpa [aX] using hp
    rw [hpl p hp']
    exact Ne.symm (below b (flt b hb)).2
  refine oN (env:=compEnvC scope (cN X.env scope.names []) C X.env) (fun n s'=>∃ i σ' H' ys its o,Inv (aX X scope (own++frn) C s2 H2 fp) [(D,o)] σ' H' s'/\s'.heap.PlainList D its/\bF ys its.toList/\ys.length<=sizeLine/\tn i s'.heap/\(∀ b∈fp,H' b=none)/\W i n ys σ' H') ?_ m0
   ⟨0,_,H2,[],#[],_,I3,⟨_,hacc⟩,.nil,Jf _,st3,fun b hb=>(f2 b hb).1,w0⟩
  rintro n s5 ⟨i,σ5,H5,ys,its,o,I5,pl5,v5,z5,st5,fr5,w5⟩
  have one:∀ {o:Obj},∀ p∈[(D,o)],p.1=D:=fun p hp=>by
   have e:=Qs.mp hp
   rw [e]
  rcases turn i n ys σ5 H5 w5 with ⟨stop,qn⟩ | ⟨go,N,hN,step⟩
  ·refine wpAny_mono (T.done (aX X scope (own++frn) C s2 H2 fp) rfl rfl rfl hc i _ s5 σ5 H5 (fun _ _=>False) I5 (stat one fr5) st5 stop) (fun r s6 hx9=>?_) fun _ _ z=>z
   obtain ⟨hr,I6⟩:=hx9
   subst hr
   obtain ⟨m6,hn6,_⟩:=I6.loc
   have p6:=I6.pin (D,o) (by simp [aX])
   have p5':=I5.pin (D,o) (by simp [aX])
   have pl6:s6.heap.PlainList D its:=by
    obtain ⟨k,e⟩:=pl5
    have e1:o=_:=Option.some.inj (p5'.1.symm.trans e)
    exact ⟨k,by rw [p6.1]; exact congrArg some e1⟩
   have IX:Inv X pins σ H5 s6:=I2.call' (ch:=fp) I6.os I6.base I6.hok I6.bare fun b hb=>⟨(f2 b hb).2.2.2.1,(f2 b hb).2.1,(f2 b hb).2.2.2.2.1,(f2 b hb).2.2.2.2.2⟩
   exact hRR C D s6 H5 ys its m6 hCle (Qh _) hDC hn6 I6.free p6.2.1 pl6 v5 z5 IX qn
  ·refine wpAny_mono (T.item (aX X scope (own++frn) C s2 H2 fp) rfl rfl rfl hc i _ s5 σ5 H5 (fun _ _=>False) I5 (stat one fr5) st5 go) (fun r s6 hx9=>?_) fun _ _ z=>z
   obtain ⟨u,hr,h6⟩:=hx9
   subst hr
   refine wpAny_mono h6 (fun _ s7 hx9=>?_) fun _ _ z=>z
   obtain ⟨x,H7,I7,r7,y7,st7,fr7⟩:=hx9
   have I7':=I7.pinned (stat one fr7) (T.obj _ _ st7)
   refine wpAny_mono (hg C s2 H2 fp _ s7 σ5 H7 x u _ I7' r7 (step x H7 y7)) (fun _ s8 hx9=>?_) fun _ _ z=>z
   obtain ⟨σ8,H8,I8,q8⟩:=hx9
   refine wpAny_mono (ht C s2 H2 fp _ s8 σ8 H8 _ I8 q8) (fun b s9 hx9=>?_) fun _ _ z=>z
   obtain ⟨H9,I9,q9⟩:=hx9
   -- what stands of the iterator and of the gathered list behind the tests,behind the item
   have keepT:∀ {H':Hp} {s':Shared} {σ':St},Inv (aX X scope (own++frn) C s2 H2 fp) ([(D,o)]++kT fp s7.heap) σ' H' s'->tn (i+1) s'.heap/\(∀ b∈fp,H' b=none)/\s'.heap.PlainList D its/\H' D=none:=fun {H' s' σ'} I'=>by
    refine ⟨T.keep _ _ _ st7 fun b hb o e=>(I'.pin (b,o) (Qo _ (Qo _ (dX hb e)))).1,fun b hb=>?_,?_,?_⟩
    ·obtain ⟨o,e,d⟩:=T.obj _ _ st7 b hb
     exact (I'.pin (b,o) (Qo _ (Qo _ (dX hb e)))).2.1
    ·have p':=I'.pin (D,o) (by simp [aX])
     have p5':=I5.pin (D,o) (by simp [aX])
     obtain ⟨k,e⟩:=pl5
     have e1:o=_:=Option.some.inj (p5'.1.symm.trans e)
     exact ⟨k,by rw [p'.1]; exact congrArg some e1⟩
    ·exact (I'.pin (D,o) (by simp [aX])).2.1
   cases b with
   | false =>
    rw [if_neg Qz] at q9
    rw [if_neg Qz]
    obtain ⟨m',hm,w'⟩:=hN ys σ8 H9 q9
    obtain ⟨t9,fr9,pl9,_⟩:=keepT I9
    exact ⟨m',hm,i+1,σ8,H9,ys,its,o,I9.unpinned,pl9,v5,z5,t9,fr9,w'⟩
   | true =>
    rw [if_pos rfl] at q9
    rw [if_pos rfl]
    refine wpAny_mono (he C s2 H2 fp _ s9 σ8 H9 _ I9 q9) (fun y s10 hx9=>?_) fun _ _ z=>z
    obtain ⟨yv,H10,I10,r10,lt10,q10⟩:=hx9
    obtain ⟨t10,fr10,pl10,hD10⟩:=keepT I10
    have hl:=v5.length
    refine wpAny_list_append_plain pl10 (fun h11 pl11 sb11=>?_) (by rw [<- Array.length_toList,<- hl]; exact Zs lt10)
    obtain ⟨m',hm,w'⟩:=hN _ σ8 H10 q10
    have I10':Inv (aX X scope (own++frn) C s2 H2 fp) [] σ8 H10 s10:=I10.pins_of fun p hp=>by cases hp
    have I11:Inv (aX X scope (own++frn) C s2 H2 fp) [] σ8 H10 { s10 with heap:=h11 } :=
     I10'.turned (t':=s10.toks) (it:=D) (fun b o hb e=>(sb11.2 b hb).trans e) hD10 hDC (.inr (by show s2.heap.objs.size<=D; rw [hDg]; exact Qh _)) cD (fun p hp=>by simp [aX] at hp)
    obtain ⟨k11,e11⟩:=id pl11
    have DfsX:D∉frs X.stack:=fun z=>by
     rcases Ql.mp (I2.stkSub D z) with e | e
     ·exact Qy _ (Qi I2.lt (by rw [hDg,e]; exact Qh _))
     ·exact I2.nofs (by rw [hDg]; exact Qh _) e
    refine ⟨m',hm,i+1,σ8,H10,ys++[yv],its.push y,{ cls:=.type "list",data:=.seq (its.push y) k11 },I11.pins_of fun p hp=>?_,pl11,?_,by rw [Qv]; show ys.length+1<=_; omega,T.keep _ _ _ t10 fun b hb o e=>(sb11.2 b (below b (flt b hb)).2).trans e,fr10,w'⟩
    ·have e:=Qs.mp hp
     subst e
     exact ⟨e11,hD10,hDC,DfsX,fun v z=>by cases z⟩
    ·rw [Array.toList_push]
     exact v5.append (.cons r10 .nil)
 exact codeAny_compStart_list (loop _ rfl) (T.self X.A 0 _ _ _ st3 (loop _ rfl))
theorem CompOk.clo {pins:List (Addr×Obj)} {σ:St} {H:Hp} {s:Shared} (S:CompOk X scope own fr frn) (I:Inv X pins σ H s):closureFor scope X.env=pure (cN X.env scope.names []):=by
 obtain ⟨p1,p2,p3,p4,p5,p6,p7⟩:=S.parts
 exact aBa fun y hy e=>I.ok.has y.1 (p4 y hy e)
theorem bR (S:CompOk X scope own fr frn) (hc:X.calm=true) (hi:PI X tg iter wi) (hg:∀ C s0 H0 fp,PG (aX X scope (own++frn) C s0 H0 fp) tg g) (ht:∀ C s0 H0 fp,PF (aX X scope (own++frn) C s0 H0 fp) ifs tt)
  (he:∀ C s0 H0 fp,PE (aX X scope (own++frn) C s0 H0 fp) elt te) (hs:∀ x,foldedSetIterable iter X.env x=pure x:=by intro _; rfl) :
  PE X (.ListComp elt [⟨tg,iter,ifs,0⟩] scope pos) (yT own.length fr wi g tt te):=by
 intro pins s σ H Q I h
 obtain ⟨p1,p2,p3,p4,p5,p6,p7⟩:=S.parts
 rw [eval_ListComp]
 refine wpAny_comprehension_free (use:=none) rfl hs (S.clo I) p1 p3 (thn (hi pins s σ H _ I h) fun v s1 h1=>thn h1 fun itv s2 h2=>?_)
 obtain ⟨it,fp,tn,J,H2,e,I2,T,st2,f2,hw⟩:=h2
 subst e
 refine pP (RR:=fun acc C=>compPost (model X.prog X.w) X.A X.xe none (EP X pins σ Q) acc C) (Q:=fun H ys=>∀ p,H p=none->Q (.ref p) (upd H p (.lst ys))) S hc I2 T st2 f2 hg ht he hw ?_
 intro C D s' H' ys its m hC hD hDC hns hHC hHD pl v z IX q
 have cne:∀ a,s2.heap.objs.size<=a->∀ x c,X.env.cells.lookup x=some c->c≠a:=fun a ha x c e z=>by
  obtain ⟨v,w⟩:=I2.cell x c e
  exact Qy _ (Qi w.lt (by rw [z]; exact ha))
 have pne:∀ a,s2.heap.objs.size<=a->∀ p∈X.pn++pins,p.1≠a:=fun a ha p hp z=>Qy _ (Qi (Qm (I2.pin p hp).1) (by rw [z]; exact ha))
 have lne:∀ a,s2.heap.objs.size<=a->a≠X.env.locals:=fun a ha z=>Qy _ (Qi I2.lt (by rw [<- z]; exact ha))
 refine ⟨m,hns,fun h' hs'=>⟨.ref D,upd H' D (.lst ys),?_,rfl,q D hHD⟩⟩
 have IT:Inv X pins σ (upd H' D (.lst ys)) s':=IX.track pl v z hHD (lne D hD) (Qt I2.sz hD) (cne D hD) (pne D hD)
 exact IT.turned (t':=s'.toks) (it:=C) (fun b o hb e=>(hs'.2 b hb).trans e) (by rw [aG (Ne.symm hDC)]; exact hHC) (lne C hC) (.inr (Qt I2.sz hC)) (cne C hC) (pne C hC)
theorem fM {i:Nat} {y:Str} {py spos:Pos} (S:CompOk X scope own fr frn) (hc:X.calm=true) (hN:X.N.Nodup) (hyi:X.N[i]?=some y) (hx:X.env.scope.names.lookup y=some .local)
  (hsw:swapsWith (.ListComp elt [⟨tg,iter,ifs,0⟩] scope pos) (some (.Name y py)) spos.line X.env=pure true)
  (hi:PI X tg iter wi) (hg:∀ C s0 H0 fp,PG (aX X scope (own++frn) C s0 H0 fp) tg g) (ht:∀ C s0 H0 fp,PF (aX X scope (own++frn) C s0 H0 fp) ifs tt)
  (he:∀ C s0 H0 fp,PE (aX X scope (own++frn) C s0 H0 fp) elt te) (hs:∀ x,foldedSetIterable iter X.env x=pure x:=by intro _; rfl) :
  PS X (.Assign [.Name y py] (.ListComp elt [⟨tg,iter,ifs,0⟩] scope pos) spos) (aCp (yT own.length fr wi g tt te) (dY i)):=by
 intro pins s σ H D I h
 obtain ⟨p1,p2,p3,p4,p5,p6,p7⟩:=S.parts
 rw [exec_Assign_Name_used _ _ _ _ hsw]
 refine wpAny_bind (wpAny_standAt (wpAny_bind ?_))
 show wpAny _ X.A (do let _<-comprehension (.ListComp elt [⟨tg,iter,ifs,0⟩] scope pos) scope X.env _ (newList []) false (eval iter X.env) (some (assign (.Name y py) X.env))) _ _ s
 refine wpAny_bind (wpAny_mono (wpAny_comprehension_free (use:=some (assign (.Name y py) X.env)) (Q:=fun _ s'=>SP X pins D .next s') rfl hs (S.clo I) p1 p3 (thn (hi pins s σ H _ I h) fun v s1 h1=>thn h1 fun itv s2 h2=>?_))
  (fun _ s' hq=>wpAny_pure (wpAny_pure hq)) fun _ _ e=>e)
 obtain ⟨it,fp,tn,J,H2,e,I2,T,st2,f2,hw⟩:=h2
 subst e
 refine pP (RR:=fun acc C=>compPost (model X.prog X.w) X.A X.xe (some (assign (.Name y py) X.env)) (fun _ s'=>SP X pins D .next s') acc C) (Q:=fun H ys=>∀ p,H p=none->D.nx (σ.set i (some (.ref p))) (upd H p (.lst ys))) S hc I2 T st2 f2 hg ht he hw ?_
 intro C L s' H' ys its m hC hL hLC hns hHC hHL pl v z IX q
 have cne:∀ a,s2.heap.objs.size<=a->∀ x c,X.env.cells.lookup x=some c->c≠a:=fun a ha x c e z=>by
  obtain ⟨v,w⟩:=I2.cell x c e
  exact Qy _ (Qi w.lt (by rw [z]; exact ha))
 have pne:∀ a,s2.heap.objs.size<=a->∀ p∈X.pn++pins,p.1≠a:=fun a ha p hp z=>Qy _ (Qi (Qm (I2.pin p hp).1) (by rw [z]; exact ha))
 have lne:∀ a,s2.heap.objs.size<=a->a≠X.env.locals:=fun a ha z=>Qy _ (Qi I2.lt (by rw [<- z]; exact ha))
 have IT:Inv X pins σ (upd H' L (.lst ys)) s':=IX.track pl v z hHL (lne L hL) (Qt I2.sz hL) (cne L hL) (pne L hL)
 show wpAny _ _ (assign (.Name y py) X.env (.ref L)) _ _ s'
 refine wpAny_assign_Name (nN IT hN hyi (.inl hx) (v:=.ref L) rfl (fun s'' I'' hch=>?_) (.inr hx))
 obtain ⟨a,sb,ha⟩:=hch
 have hCa:C≠a:=by
  rcases ha with e | e
  ·rw [e]; exact lne C hC
  ·exact Ne.symm (cne C hC y a e)
 refine ⟨m,hns.sameBut sb hCa,fun h' hs'=>⟨σ.set i (some (.ref L)),upd H' L (.lst ys),?_,q L hHL⟩⟩
 exact I''.turned (t':=s''.toks) (it:=C) (fun b o hb e=>(hs'.2 b hb).trans e) (by rw [aG (Ne.symm hLC)]; exact hHC) (lne C hC) (.inr (Qt I2.sz hC)) (cne C hC) (pne C hC)
end
inductive Kd where
 | int | bl | non | str | tup | lst | dct
 deriving DecidableEq
def KdV (K:PySem.W.Frag) (H:Hp):V->Kd->Prop
 | .int _,k=>k=.int
 | .bl _,k=>k=.bl
 | .non,k=>k=.non
 | .str _,k=>k=.str
 | .ref p,k=>(k=.lst/\∃ xs,SqL K H p xs)∨(k=.tup/\∃ xs,SqT K H p xs)∨(k=.dct/\∃ kvs,H p=some (.dK kvs))
 | _,_=>False
section
variable {X:Cx}
theorem tN {pins:List (Addr×Obj)} {σ:St} {H:Hp} {s:Shared} {p:Addr} {kvs:List (Key×V)} (I:Inv X pins σ H s) (h:H p=some (.dK kvs)):∃ o,s.heap.get? p=some o/\o.cls=.type "dict" := by
 obtain ⟨_,_,vs,_,o,es,ep,e,ex,_⟩:=I.hok p _ h
 exact ⟨o,e,ex.1⟩
theorem mL:eY X (.builtin "isinstance") (fun xs H Q=>∃ x k,xs = [x,.ty "int"]/\KdV X.K H x k/\Q (.bl (decide (k=.int∨k=.bl))) H):=by
 intro pins s σ H xs us Q I r h
 obtain ⟨x,k,rfl,hk,q⟩:=h
 obtain ⟨u,t,rfl,rx,rt⟩:=lX r
 cases rt
 cases x with
 | int i=>cases hk; obtain ⟨t,rfl⟩:=rx; exact IsiPair.int_int ⟨.bl true,H,I,rfl,q⟩
 | bl b=>cases hk; cases rx; exact IsiPair.bool_int ⟨.bl true,H,I,rfl,q⟩
 | non=>cases hk; cases rx; exact IsiPair.NoneType_int ⟨.bl false,H,I.tok _,rfl,q⟩
 | str y=>cases hk; obtain ⟨t,rfl⟩:=rx; exact IsiPair.str_int ⟨.bl false,H,I.tok _,rfl,q⟩
 | ref p =>
  cases rx
  rcases hk with ⟨rfl,xs,hx⟩ | ⟨rfl,xs,hx⟩ | ⟨rfl,kvs,hx⟩
  ·obtain ⟨its,r',pl,hz⟩:=I.list hx; exact IsiPair.isList_int pl.isList (fun _ _ e=>e) ⟨.bl false,H,I.tok _,rfl,q⟩
  ·obtain ⟨its,r',pl,hz⟩:=I.tuple hx; exact IsiPair.isTuple_int pl (fun _ _ e=>e) ⟨.bl false,H,I.tok _,rfl,q⟩
  ·obtain ⟨o,e,c⟩:=tN I hx; exact IsiPair.dict_int e c ⟨.bl false,H,I.tok _,rfl,q⟩
 | _=>exact hk.elim
theorem lZ:eY X (.builtin "isinstance") (fun xs H Q=>∃ x k,xs = [x,.ty "bool"]/\KdV X.K H x k/\Q (.bl (decide (k=.bl))) H):=by
 intro pins s σ H xs us Q I r h
 obtain ⟨x,k,rfl,hk,q⟩:=h
 obtain ⟨u,t,rfl,rx,rt⟩:=lX r
 cases rt
 cases x with
 | int i=>cases hk; obtain ⟨t,rfl⟩:=rx; exact IsiPair.int_bool ⟨.bl false,H,I.tok _,rfl,q⟩
 | bl b=>cases hk; cases rx; exact IsiPair.bool_bool ⟨.bl true,H,I,rfl,q⟩
 | non=>cases hk; cases rx; exact IsiPair.NoneType_bool ⟨.bl false,H,I.tok _,rfl,q⟩
 | str y=>cases hk; obtain ⟨t,rfl⟩:=rx; exact IsiPair.str_bool ⟨.bl false,H,I.tok _,rfl,q⟩
 | ref p =>
  cases rx
  rcases hk with ⟨rfl,xs,hx⟩ | ⟨rfl,xs,hx⟩ | ⟨rfl,kvs,hx⟩
  ·obtain ⟨its,r',pl,hz⟩:=I.list hx; exact IsiPair.isList_bool pl.isList (fun _ _ e=>e) ⟨.bl false,H,I.tok _,rfl,q⟩
  ·obtain ⟨its,r',pl,hz⟩:=I.tuple hx; exact IsiPair.isTuple_bool pl (fun _ _ e=>e) ⟨.bl false,H,I.tok _,rfl,q⟩
  ·obtain ⟨o,e,c⟩:=tN I hx; exact IsiPair.dict_bool e c ⟨.bl false,H,I.tok _,rfl,q⟩
 | _=>exact hk.elim
theorem cS:eY X (.builtin "isinstance") (fun xs H Q=>∃ x k,xs = [x,.ty "tuple"]/\KdV X.K H x k/\Q (.bl (decide (k=.tup))) H):=by
 intro pins s σ H xs us Q I r h
 obtain ⟨x,k,rfl,hk,q⟩:=h
 obtain ⟨u,t,rfl,rx,rt⟩:=lX r
 cases rt
 cases x with
 | int i=>cases hk; obtain ⟨t,rfl⟩:=rx; exact IsiPair.int_tuple ⟨.bl false,H,I.tok _,rfl,q⟩
 | bl b=>cases hk; cases rx; exact IsiPair.bool_tuple ⟨.bl false,H,I.tok _,rfl,q⟩
 | non=>cases hk; cases rx; exact IsiPair.NoneType_tuple ⟨.bl false,H,I.tok _,rfl,q⟩
 | str y=>cases hk; obtain ⟨t,rfl⟩:=rx; exact IsiPair.str_tuple ⟨.bl false,H,I.tok _,rfl,q⟩
 | ref p =>
  cases rx
  rcases hk with ⟨rfl,xs,hx⟩ | ⟨rfl,xs,hx⟩ | ⟨rfl,kvs,hx⟩
  ·obtain ⟨its,r',pl,hz⟩:=I.list hx; exact IsiPair.isList_tuple pl.isList (fun _ _ e=>e) ⟨.bl false,H,I.tok _,rfl,q⟩
  ·obtain ⟨its,r',pl,hz⟩:=I.tuple hx; exact IsiPair.isTuple_tuple pl (fun _ _ e=>e) ⟨.bl true,H,I,rfl,q⟩
  ·obtain ⟨o,e,c⟩:=tN I hx; exact IsiPair.dict_tuple e c ⟨.bl false,H,I.tok _,rfl,q⟩
 | _=>exact hk.elim
theorem rQ:eY X (.builtin "isinstance") (fun xs H Q=>∃ x k,xs = [x,.ty "list"]/\KdV X.K H x k/\Q (.bl (decide (k=.lst))) H):=by
 intro pins s σ H xs us Q I r h
 obtain ⟨x,k,rfl,hk,q⟩:=h
 obtain ⟨u,t,rfl,rx,rt⟩:=lX r
 cases rt
 cases x with
 | int i=>cases hk; obtain ⟨t,rfl⟩:=rx; exact IsiPair.int_list ⟨.bl false,H,I.tok _,rfl,q⟩
 | bl b=>cases hk; cases rx; exact IsiPair.bool_list ⟨.bl false,H,I.tok _,rfl,q⟩
 | non=>cases hk; cases rx; exact IsiPair.NoneType_list ⟨.bl false,H,I.tok _,rfl,q⟩
 | str y=>cases hk; obtain ⟨t,rfl⟩:=rx; exact IsiPair.str_list ⟨.bl false,H,I.tok _,rfl,q⟩
 | ref p =>
  cases rx
  rcases hk with ⟨rfl,xs,hx⟩ | ⟨rfl,xs,hx⟩ | ⟨rfl,kvs,hx⟩
  ·obtain ⟨its,r',pl,hz⟩:=I.list hx; exact IsiPair.isList_list pl.isList (fun _ _ e=>e) ⟨.bl true,H,I,rfl,q⟩
  ·obtain ⟨its,r',pl,hz⟩:=I.tuple hx; exact IsiPair.isTuple_list pl (fun _ _ e=>e) ⟨.bl false,H,I.tok _,rfl,q⟩
  ·obtain ⟨o,e,c⟩:=tN I hx; exact IsiPair.dict_list e c ⟨.bl false,H,I.tok _,rfl,q⟩
 | _=>exact hk.elim
theorem aAi (bs:List Bool) (tr:Nat->Bool) (h:∀ i b,bs[i]?=some b->tr i=b):(List.range bs.length).all tr=bs.all id:=by
 rw [Jl,Qu,Qu]
 constructor
 ·intro q b hb
  obtain ⟨i,hi⟩:=Wm hb
  have:=q i (Jy.mpr (Qd.mp hi).1)
  rw [h i b hi] at this
  exact this
 ·intro q i hi
  have hi':=Jy.mp hi
  have e:bs[i]?=some bs[i]:=Qc hi'
  rw [h i _ e]
  exact q _ (Yf hi')
theorem pQ (hc:X.calm=true):eY X (.builtin "all") (fun xs H Q=>∃ (p:Addr) (bs:List Bool),xs = [.ref p]/\SqL X.K H p (bs.map V.bl)/\Q (.bl (bs.all id)) H):=by
 intro pins s σ H xs us Q I r h
 obtain ⟨p,bs,rfl,hx,q⟩:=h
 obtain ⟨u,rfl,rx⟩:=jR r
 cases rx
 obtain ⟨its,rv,pl,hz⟩:=I.list hx
 have hl:=rv.length
 rw [Qa] at hl
 have hlt:p < s.heap.objs.size:=by obtain ⟨o,n,e,_⟩:=pl; exact Qm e
 refine call_all_walk (wpAny_pyIter_list pl.isList ?_)
 refine ⟨s.heap.objs.size,_,_,_,_,_,fun i=>(bs[i]?).getD false,rfl,Walks.list (A:=X.A.in1) (I.ok.hd hc) s.heap.objs.size p (Jr hlt) its.toArray,⟨⟨_,Qn _ rfl,rfl,rfl⟩,pl.isList.push _⟩,?_,fun h' tk hk=>?_⟩
 ·intro i v s' Q' E' hP hQ'
  have hP':its[i]?=some v:=by simpa using hP
  have hi:i < bs.length:=by rw [hl]; exact (Qd.mp hP').1
  obtain ⟨w,hw,rw'⟩:=rv.get (i:=i) (x:=.bl bs[i]) (by rw [Qg,Qc hi]; rfl)
  rw [hw] at hP'
  cases hP'
  cases rw'
  have e:(bs[i]?).getD false=bs[i]:=by rw [Qc hi]; rfl
  rw [<- e]
  exact wpAny_truthy_bool hQ'
 ·have e:(List.range its.toArray.size).all (fun i=>(bs[i]?).getD false)=bs.all id:=by
   rw [Qj,<- hl]
   exact aAi bs _ fun i b hb=>by rw [hb]; rfl
  rw [e]
  refine ⟨.bl _,H,I.kept (h':=h') fun b o e=>hk b o ?_ (Qb _ e),rfl,q⟩
  intro z
  have z':b=s.heap.objs.size:=by simpa using z
  exact Qy _ (z' ▸ Qm e)
def aN (ns:List Int):Int:=ns.foldr (· + ·) 0
theorem kW (ns:List Int) (val:Nat->Int) (h:∀ (i:Nat) (v:Int),ns[i]?=some v->val i=v):∀ j,j<=ns.length->preSum val j=aN (ns.take j)
 | 0,_=>rfl
 | j+1,hj=>by
  have ih:=kW ns val h j (by omega)
  have e:ns[j]?=some ns[j]:=Qc (by omega)
  show preSum val j+val j=_
  rw [ih,h j _ e,Wp,e]
  unfold aN
  rw [List.foldr_append]
  simp only [Option.toList_some,List.foldr_cons,List.foldr_nil,Wx]
  generalize ns[j]=v
  induction (List.take j ns) with
  | nil=>simp
  | cons a l ih2=>simp only [List.foldr_cons]; omega
theorem aBc (hc:X.calm=true):eY X (.builtin "sum") (fun xs H Q=>∃ (p:Addr) (ns:List Int),xs = [.ref p]/\SqL X.K H p (ns.map V.int)/\(∀ n∈ns,0<=n/\n < 1000000)/\ns.length<=1000000/\Q (.int (aN ns)) H):=by
 intro pins s σ H xs us Q I r h
 obtain ⟨p,ns,rfl,hx,hb,hlen,q⟩:=h
 obtain ⟨u,rfl,rx⟩:=jR r
 cases rx
 obtain ⟨its,rv,pl,hz⟩:=I.list hx
 have hl:=rv.length
 rw [Qa] at hl
 have hlt:p < s.heap.objs.size:=by obtain ⟨o,n,e,_⟩:=pl; exact Qm e
 have hval:∀ (i:Nat) (v:Int),ns[i]?=some v->(ns[i]?).getD 0=v:=fun i v e=>by rw [e]; rfl
 have bnd:∀ (ms:List Int),(∀ n∈ms,0<=n/\n < 1000000)->0<=aN ms/\aN ms<=ms.length*1000000:=fun ms=>by
  induction ms with
  | nil=>intro _; exact ⟨Xf _,Xf _⟩
  | cons a l ih =>
   intro hh
   have h1:=hh a Qk
   have h2:=ih fun n hn=>hh n (Qq _ hn)
   have e:aN (a::l)=a+aN l:=rfl
   rw [e,Jh]
   rw [Int.natCast_add]
   omega
 refine call_sum_walk (wpAny_pyIter_list pl.isList ?_)
 refine ⟨s.heap.objs.size,_,_,_,_,_,fun i=>(ns[i]?).getD 0,rfl,Walks.list (A:=X.A.in1) (I.ok.hd hc) s.heap.objs.size p (Jr hlt) its.toArray,⟨⟨_,Qn _ rfl,rfl,rfl⟩,pl.isList.push _⟩,?_,?_,?_,fun h' tk t' hk=>?_⟩
 ·intro b hb'
  rw [Js]
  rcases Ql.mp hb' with e | e
  ·rw [e]; exact Nat.lt_succ_self _
  ·have e':b=p:=by simpa using e
   rw [e']; exact Nat.lt_succ_of_lt hlt
 ·intro i v hP
  have hP':its[i]?=some v:=by simpa using hP
  have hi:i < ns.length:=by rw [hl]; exact (Qd.mp hP').1
  obtain ⟨w,hw,rw'⟩:=rv.get (i:=i) (x:=.int ns[i]) (by rw [Qg,Qc hi]; rfl)
  rw [hw] at hP'
  cases hP'
  obtain ⟨t,rfl⟩:=rw'
  exact ⟨t,by show Value.int ns[i] t=Value.int ((ns[i]?).getD 0) t; rw [Qc hi]; rfl⟩
 ·intro j hj
  have hj':j < ns.length:=by rw [hl]; simpa using hj
  have e:ns[j]?=some ns[j]:=Qc hj'
  have h1:=hb _ (Yf hj')
  have h2:=bnd (ns.take (j+1)) fun n hn=>hb n (Wn hn)
  rw [kW ns _ hval (j+1) (by omega)]
  have h3:(ns.take (j+1)).length<=1000000:=by rw [Jd]; omega
  unfold InLong
  have e5:(fun i:Nat=>(ns[i]?).getD 0) j=ns[j]:=by show (ns[j]?).getD 0=_; rw [e]; rfl
  rw [e5]
  have h4:((ns.take (j+1)).length:Int)*1000000<=1000000*1000000:=by omega
  omega
 ·have e:preSum (fun i=>(ns[i]?).getD 0) its.toArray.size=aN ns:=by
   rw [Qj,<- hl,kW ns _ hval ns.length (Qh _),Jk]
  rw [e]
  refine ⟨.int _,H,I.kept (h':=h') fun b o e=>hk b o ?_ (Qb _ e),⟨_,rfl⟩,q⟩
  intro z
  have z':b=s.heap.objs.size:=by simpa using z
  exact Qy _ (z' ▸ Qm e)
end
mutual
def Den (K:PySem.W.Frag) (H:Hp):PyData->V->Prop
 | .none,v=>v=.non
 | .bool b,v=>v=.bl b
 | .int i,v=>v=.int i
 | .str x,v=>v=.str x
 | .list ds,v=>∃ a xs,v=.ref a/\SqL K H a xs/\aO K H ds xs
 | .tuple ds,v=>∃ a xs,v=.ref a/\SqT K H a xs/\aO K H ds xs
 | .dict kvs,v=>kvs = []/\∃ a,v=.ref a/\H a=some (.dK [])
def aO (K:PySem.W.Frag) (H:Hp):List PyData->List V->Prop
 | [],xs=>xs = []
 | d::ds,xs=>∃ x r,xs=x::r/\Den K H d x/\aO K H ds r
end
theorem aC.rd {H H':Hp} {a:Addr} {u:HO} (e:aC H H') (h:Rd H a u):Rd H' a u:=by
 rcases h with h | ⟨o,h⟩
 ·exact .inl (e a u h)
 ·exact .inr ⟨o,e a _ h⟩
theorem aC.seqL {K:PySem.W.Frag} {H H':Hp} {a:Addr} {xs:List V} (e:aC H H') (h:SqL K H a xs):SqL K H' a xs:=by
 rcases h with h | h
 ·exact .inl (e.rd h)
 ·exact .inr h
theorem aC.seqT {K:PySem.W.Frag} {H H':Hp} {a:Addr} {xs:List V} (e:aC H H') (h:SqT K H a xs):SqT K H' a xs:=by
 rcases h with h | h
 ·exact .inl (e.rd h)
 ·exact .inr h
theorem aC.new {H:Hp} {p:Addr} {o:HO} (h:H p=none):aC H (upd H p o):=fun b u e=>by rw [aG (hG e h)]; exact e
mutual
theorem aC.den {K:PySem.W.Frag} {H H':Hp} (e:aC H H'):∀ (d:PyData) (v:V),Den K H d v->Den K H' d v
 | .none,v,h=>by unfold Den at h ⊢; exact h
 | .bool b,v,h=>by unfold Den at h ⊢; exact h
 | .int i,v,h=>by unfold Den at h ⊢; exact h
 | .str x,v,h=>by unfold Den at h ⊢; exact h
 | .list ds,v,h=>by unfold Den at h ⊢; obtain ⟨a,xs,h1,h2,h3⟩:=h; exact ⟨a,xs,h1,e.seqL h2,aC.denAll e ds xs h3⟩
 | .tuple ds,v,h=>by unfold Den at h ⊢; obtain ⟨a,xs,h1,h2,h3⟩:=h; exact ⟨a,xs,h1,e.seqT h2,aC.denAll e ds xs h3⟩
 | .dict kvs,v,h=>by unfold Den at h ⊢; obtain ⟨h1,a,h2,h3⟩:=h; exact ⟨h1,a,h2,e a _ h3⟩
theorem aC.denAll {K:PySem.W.Frag} {H H':Hp} (e:aC H H'):∀ (ds:List PyData) (xs:List V),aO K H ds xs->aO K H' ds xs
 | [],xs,h=>by unfold aO at h ⊢; exact h
 | d::ds,xs,h=>by unfold aO at h ⊢; obtain ⟨x,r,h1,h2,h3⟩:=h; exact ⟨x,r,h1,aC.den e d x h2,aC.denAll e ds r h3⟩
end
section
variable {K:PySem.W.Frag} {H:Hp}
theorem dM {i:Int} {v:V}:Den K H (.int i) v↔v=.int i:=by unfold Den; exact Iff.rfl
theorem vL {b:Bool} {v:V}:Den K H (.bool b) v↔v=.bl b:=by unfold Den; exact Iff.rfl
theorem vM {v:V}:Den K H .none v↔v=.non:=by unfold Den; exact Iff.rfl
theorem yU {x:Str} {v:V}:Den K H (.str x) v↔v=.str x:=by unfold Den; exact Iff.rfl
theorem bT {ds:List PyData} {v:V}:Den K H (.list ds) v↔∃ a xs,v=.ref a/\SqL K H a xs/\aO K H ds xs:=by
 constructor
 ·intro h; unfold Den at h; exact h
 ·intro h; unfold Den; exact h
theorem bV {ds:List PyData} {v:V}:Den K H (.tuple ds) v↔∃ a xs,v=.ref a/\SqT K H a xs/\aO K H ds xs:=by
 constructor
 ·intro h; unfold Den at h; exact h
 ·intro h; unfold Den; exact h
theorem aBd {kvs:List (PyData×PyData)} {v:V}:Den K H (.dict kvs) v↔kvs = []/\∃ a,v=.ref a/\H a=some (.dK []):=by
 constructor
 ·intro h; unfold Den at h; exact h
 ·intro h; unfold Den; exact h
theorem aL {xs:List V}:aO K H [] xs↔xs = []:=by unfold aO; exact Iff.rfl
theorem aJ {d:PyData} {ds:List PyData} {xs:List V}:aO K H (d::ds) xs↔∃ x r,xs=x::r/\Den K H d x/\aO K H ds r:=by
 constructor
 ·intro h; unfold aO at h; exact h
 ·intro h; unfold aO; exact h
theorem aK:∀ {ds:List PyData} {xs:List V},aO K H ds xs->xs.length=ds.length
 | [],xs,h=>by rw [aL.mp h]; rfl
 | d::ds,xs,h=>by
  obtain ⟨x,r,rfl,_,h3⟩:=aJ.mp h
  rw [Jh,Jh,aK h3]
theorem pR:∀ {ds:List PyData} {xs:List V} {i:Nat} {d:PyData},aO K H ds xs->ds[i]?=some d->∃ x,xs[i]?=some x/\Den K H d x
 | [],_,_,_,_,e=>by simp at e
 | d::ds,xs,0,d',h,e=>by
  obtain ⟨x,r,rfl,h2,_⟩:=aJ.mp h
  simp at e; subst e
  exact ⟨x,rfl,h2⟩
 | d::ds,xs,i+1,d',h,e=>by
  obtain ⟨x,r,rfl,_,h3⟩:=aJ.mp h
  obtain ⟨y,h4,h5⟩:=pR (i:=i) (d:=d') h3 (by simpa using e)
  exact ⟨y,by simpa using h4,h5⟩
theorem jS {ds:List PyData} {xs:List V} {i:Nat} {x:V} (h:aO K H ds xs) (e:xs[i]?=some x):∃ d,ds[i]?=some d/\Den K H d x:=by
 have hl:=aK h
 have hi:i < ds.length:=by rw [<- hl]; exact (Qd.mp e).1
 obtain ⟨y,h1,h2⟩:=pR h (Qc hi)
 rw [e] at h1; cases h1
 exact ⟨_,Qc hi,h2⟩
theorem bC:∀ {ds es:List PyData} {xs ys:List V},aO K H ds xs->aO K H es ys->aO K H (ds++es) (xs++ys)
 | [],es,xs,ys,h,h'=>by rw [aL.mp h]; exact h'
 | d::ds,es,xs,ys,h,h'=>by
  obtain ⟨x,r,rfl,h2,h3⟩:=aJ.mp h
  exact aJ.mpr ⟨x,r++ys,rfl,h2,bC h3 h'⟩
theorem cK:∀ {ns:List Int} {xs:List V},aO K H (ns.map PyData.int) xs↔xs=ns.map V.int
 | [],xs=>aL
 | n::ns,xs=>by
  rw [Jc,aJ]
  constructor
  ·rintro ⟨x,r,rfl,h2,h3⟩
   rw [dM.mp h2,cK.mp h3]
   rfl
  ·intro e
   exact ⟨_,_,e,dM.mpr rfl,cK.mpr rfl⟩
theorem bB {ns:List Int} {v:V}:Den K H (.tuple (ns.map .int)) v↔∃ a,v=.ref a/\SqT K H a (ns.map V.int):=by
 rw [bV]
 constructor
 ·rintro ⟨a,xs,rfl,h1,h2⟩
  rw [cK.mp h2] at h1
  exact ⟨a,rfl,h1⟩
 ·rintro ⟨a,rfl,h⟩
  exact ⟨a,_,rfl,h,cK.mpr rfl⟩
theorem sP {ns:List Int} {v:V}:Den K H (.list (ns.map .int)) v↔∃ a,v=.ref a/\SqL K H a (ns.map V.int):=by
 rw [bT]
 constructor
 ·rintro ⟨a,xs,rfl,h1,h2⟩
  rw [cK.mp h2] at h1
  exact ⟨a,rfl,h1⟩
 ·rintro ⟨a,rfl,h⟩
  exact ⟨a,_,rfl,h,cK.mpr rfl⟩
def mE:PyData->Kd
 | .none=>.non | .bool _=>.bl | .int _=>.int | .str _=>.str | .list _=>.lst | .tuple _=>.tup | .dict _=>.dct
theorem Den.kd {d:PyData} {v:V} (h:Den K H d v):KdV K H v (mE d):=by
 cases d with
 | none=>rw [vM.mp h]; rfl
 | bool b=>rw [vL.mp h]; rfl
 | int i=>rw [dM.mp h]; rfl
 | str x=>rw [yU.mp h]; rfl
 | list ds=>obtain ⟨a,xs,rfl,h1,_⟩:=bT.mp h; exact .inl ⟨rfl,xs,h1⟩
 | tuple ds=>obtain ⟨a,xs,rfl,h1,_⟩:=bV.mp h; exact .inr (.inl ⟨rfl,xs,h1⟩)
 | dict kvs=>obtain ⟨_,a,rfl,h1⟩:=aBd.mp h; exact .inr (.inr ⟨rfl,[],h1⟩)
end
section
variable {X:Cx} {pins:List (Addr×Obj)} {σ:St} {H:Hp} {s:Shared}
mutual
def cT:PyData->Bool
 | .dict _=>false
 | .list ds=>gL ds
 | .tuple ds=>gL ds
 | _=>true
def gL:List PyData->Bool
 | []=>true
 | d::ds=>cT d && gL ds
end
mutual
theorem Den.reads (I:Inv X pins σ H s):∀ (d:PyData) (v:V) (u:Value),cT d=true->Den X.K H d v->bI v u->∃ as,Reads s.heap u d as
 | .none,v,u,_,h,r=>by rw [vM.mp h] at r; cases r; exact ⟨_,.none⟩
 | .bool b,v,u,_,h,r=>by rw [vL.mp h] at r; cases r; exact ⟨_,.bool b⟩
 | .int i,v,u,_,h,r=>by rw [dM.mp h] at r; obtain ⟨t,rfl⟩:=r; exact ⟨_,.int i t⟩
 | .str x,v,u,_,h,r=>by rw [yU.mp h] at r; obtain ⟨t,rfl⟩:=r; exact ⟨_,.str x t⟩
 | .list ds,v,u,hn,h,r=>by
  obtain ⟨a,xs,rfl,h1,h2⟩:=bT.mp h
  cases r
  obtain ⟨its,rv,⟨o,n,e,c,_,d⟩,_⟩:=I.list h1
  obtain ⟨as,ra⟩:=aO.reads I ds xs its (by unfold cT at hn; exact hn) h2 rv
  exact ⟨_,.list e c d (by simpa using ra)⟩
 | .tuple ds,v,u,hn,h,r=>by
  obtain ⟨a,xs,rfl,h1,h2⟩:=bV.mp h
  cases r
  obtain ⟨its,rv,⟨o,e,c,n,d⟩,_⟩:=I.tuple h1
  obtain ⟨as,ra⟩:=aO.reads I ds xs its (by unfold cT at hn; exact hn) h2 rv
  exact ⟨_,.tuple e c d (by simpa using ra)⟩
 | .dict kvs,v,u,hn,_,_=>by unfold cT at hn; cases hn
theorem aO.reads (I:Inv X pins σ H s):∀ (ds:List PyData) (xs:List V) (us:List Value),gL ds=true->aO X.K H ds xs->bF xs us->∃ as,ReadsAll s.heap us ds as
 | [],xs,us,_,h,r=>by rw [aL.mp h] at r; cases r; exact ⟨_,.nil⟩
 | d::ds,xs,us,hn,h,r=>by
  obtain ⟨x,rr,rfl,h2,h3⟩:=aJ.mp h
  unfold gL at hn
  rw [Jj] at hn
  cases r with
  | cons r1 r2 =>
   obtain ⟨as,ra⟩:=Den.reads I d x _ hn.1 h2 r1
   obtain ⟨bs,rb⟩:=aO.reads I ds rr _ hn.2 h3 r2
   exact ⟨_,.cons ra rb⟩
end
theorem sQ (hg:X.A.guards=some []) (hu:X.A.units+64 < cLine):eY X (.builtin "repr") (fun xs H Q=>∃ d a,xs = [.ref a]/\Den X.K H d (.ref a)/\cT d=true/\d.hasDict=false/\d.showable=true/\d.depth<=60/\d.shown.length<=sizeLine/\Q (.str d.shown) H):=by
 intro pins s σ H xs us Q I r h
 obtain ⟨d,a,rfl,hd,h1,h2,h3,h4,h5,q⟩:=h
 obtain ⟨u,rfl,rx⟩:=jR r
 obtain ⟨as,rd⟩:=Den.reads I d _ _ h1 hd rx
 cases rx
 exact repr_of_reads' rd h3 (fun z=>by rw [h2] at z; cases z) hg (by omega) (fun _ _ e=>e) (fun h' u tk kp=>⟨.str d.shown,H,I.kept kp,⟨_,rfl⟩,q⟩) h5
theorem tO (hu:X.A.units+64 < cLine):OpR X (compareOp .Eq) (fun x y H Q=>∃ d e,Den X.K H d x/\Den X.K H e y/\cT d=true/\cT e=true/\SeqAt.shaped d=true/\SeqAt.shaped e=true/\Q (.bl (PyData.eqv d e)) H):=by
 intro pins s σ H x y v u Q I rx ry h
 obtain ⟨d,e,hd,he,n1,n2,s1,s2,q⟩:=h
 obtain ⟨as,ra⟩:=Den.reads I d x v n1 hd rx
 obtain ⟨bs,rb⟩:=Den.reads I e y u n2 he ry
 exact eq_dataH ra rb s1 s2 hu ⟨.bl _,H,I,rfl,q⟩
theorem jO (hu:X.A.units+64 < cLine):OpR X (compareOp .NotEq) (fun x y H Q=>∃ d e,Den X.K H d x/\Den X.K H e y/\cT d=true/\cT e=true/\SeqAt.shaped d=true/\SeqAt.shaped e=true/\Q (.bl (!PyData.eqv d e)) H):=by
 intro pins s σ H x y v u Q I rx ry h
 obtain ⟨d,e,hd,he,n1,n2,s1,s2,q⟩:=h
 obtain ⟨as,ra⟩:=Den.reads I d x v n1 hd rx
 obtain ⟨bs,rb⟩:=Den.reads I e y u n2 he ry
 exact ne_dataH ra rb s1 s2 hu ⟨.bl _,H,I,rfl,q⟩
end
section
variable {prog:Program} {w:World} {A:Around} {E:Value->Shared->Prop} {s:Shared}
theorem aAj {x:Value} {ns:List Int} {Q:Value->Shared->Prop} (h64:ns.length < 64)
  (hc:∀ Q':List Value->Shared->Prop,(∀ h' tk vs,(∀ b o,s.heap.get? b=some o->h'.get? b=some o)->IntsAre vs ns->Q' vs { s with heap:=h',toks:=tk })->wpAny (model prog w) A.in1 (collect x) Q' E s)
  (h:∀ (h1 h':Heap) tk out ns',(∀ b o,s.heap.get? b=some o->h1.get? b=some o)->(∀ b o,h1.get? b=some o->h'.get? b=some o)->h'.PlainList h1.objs.size out->IntsAre out.toList ns'->ns'.Perm ns->ns'.Pairwise (·<=·)->Q (.ref h1.objs.size) { s with heap:=h',toks:=tk }) :
  wpAny (model prog w) A (call (.builtin "sorted") [x]) Q E s:=by
 refine Calls.call_function_entry kind_sorted plain_sorted entry_sorted (args_sorted1 _) ?_
 unfold Builtin.«sorted»
 refine wpAny_bind (m:=checkCount "sorted" 1 1 _) (wpAny_pure ?_)
 refine wpAny_bind (hc _ fun h1 tk vs kp hi=>?_)
 have hlen:=hi.length
 refine wpAny_bind (wpAny_newList ?_ (by rw [sizeLine_eq]; omega))
 have hoL:(h1.push (seqObj "list" vs.toArray 0)).get? h1.objs.size=some (seqObj "list" vs.toArray 0):=Qn _ rfl
 refine wpAny_bind (wpAny_holding (wpAny_call_entry slot_list_sort ⟨_,hoL,rfl⟩ entry_list_sort (list_sort_tree hoL hi (by omega) fun out ns' a1 a2 a3=>⟨_,rfl,?_⟩) (args_list_sort _)))
 refine wpAny_pure ⟨_,rfl,?_⟩
 obtain ⟨e,he⟩:=sortedHeap_at (out:=out) hoL
 refine h h1 _ tk out ns' kp (fun b o q=>?_) ⟨e,he⟩ a1 a2 a3
 rw [sortedHeap_old (Jr (Qm q)) (by rw [size_push']; exact Nat.lt_succ_of_lt (Qm q))]
 exact Qb _ q
end
section
variable {X:Cx}
theorem oO:eY X (.type "range") (fun xs H Q=>∃ j,xs = [.int j]/\∀ p,H p=none->Q (.ref p) (upd H p (.rng 0 j))):=by
 intro pins s σ H xs us Q I r h
 obtain ⟨j,rfl,q⟩:=h
 obtain ⟨u,rfl,t,rfl⟩:=jR r
 refine call_range_1 ⟨.ref s.heap.objs.size,_,I.laid (fun b o e=>Qb _ e) (Qh _) ?_,rfl,q _ (I.hok.fresh (Qh _))⟩
 exact ⟨_,_,_,Qn _ rfl⟩
def aQ (n:Nat):List Int:=(List.range n).map fun (i:Nat)=>(i:Int)
theorem kX:eY X (.builtin "sorted") (fun xs H Q=>∃ (a:Addr) (ns:List Int),xs = [.ref a]/\(SqL X.K H a (ns.map V.int)∨SqT X.K H a (ns.map V.int))/\ns.length < 64 /\
  ∀ (p:Addr) (ms:List Int),H p=none->ms.Perm ns->ms.Pairwise (·<=·)->Q (.ref p) (upd H p (.lst (ms.map V.int)))):=by
 intro pins s σ H xs us Q I r h
 obtain ⟨a,ns,rfl,ha,h64,q⟩:=h
 obtain ⟨u,rfl,rx⟩:=jR r
 cases rx
 refine aAj h64 (fun Q' hQ'=>?_) fun h1 h' tk out ns' k1 k2 pl hi hp ho=>?_
 ·rcases ha with ha | ha
  ·obtain ⟨its,rv,⟨o,n,e,c,_,d⟩,hz⟩:=I.list ha
   have hl:=rv.length
   exact wpAny_collect_seq a (.inl rfl) e c d (fun h' kp=>hQ' h' s.toks _ kp (by simpa using mD rv)) (by rw [Qj,<- hl]; exact hz)
  ·obtain ⟨its,rv,⟨o,e,c,n,d⟩,hz⟩:=I.tuple ha
   have hl:=rv.length
   exact wpAny_collect_seq a (.inr rfl) e c d (fun h' kp=>hQ' h' s.toks _ kp (by simpa using mD rv)) (by rw [Qj,<- hl]; exact hz)
 ·have I1:Inv X pins σ H { s with heap:=h1,toks:=tk }:=I.kept k1
  have hf:=I1.hok.fresh (Qh _)
  have hl:=hp.length_eq
  obtain ⟨n,e⟩:=pl
  have I2:Inv X pins σ (upd H h1.objs.size (.lst (ns'.map V.int))) { s with heap:=h',toks:=tk } :=
   I1.laid (t':=tk) k2 (Qh _) (show cJ X.prog X.w _ _ _ (.lst _) from ⟨by rw [Qa,hl,sizeLine_eq]; omega,out.toList,n,sO hi,by simpa using e⟩)
  exact ⟨.ref h1.objs.size,_,I2,rfl,q _ ns' hf hp ho⟩
end
def tab (L:Bool) (ns:List Nat):SetTable:={ mask:=7,place:=ns.toArray,dummies:=#[],finger:=0,led:=L,moves:=0,plain:=true }
def aFz (l:List (Nat×Tok)):Array (Int×Value):=(l.map fun p=>((p.1:Int),Value.int (p.1:Int) p.2)).toArray
theorem pt2:∀ (L:Bool) (k j:Fin 8),j < k->(tab L [k.val]).put j.val=(tab L [j.val,k.val],0):=by decide +kernel
def SX (L:Bool) (h:Heap) (a:Addr) (l:List (Nat×Tok)):Prop:=∃ o ep,h.get? a=some o/\o.ExactSet/\o.data=.set (aFz l) ep (tab L (l.map (·.1)))
section
variable {prog:Program} {w:World} {A:Around} {E:Value->Shared->Prop} {s:Shared} {L:Bool} {a:Addr}
end
section
variable {prog:Program} {w:World} {A:Around} {E:Value->Shared->Prop} {s:Shared}
abbrev Led (w:World):Bool:=!(w.params.followText "set-order")
def two (a b:Nat) (t u:Tok):List (Nat×Tok):=if a=b then [(a,t)] else if a < b then [(a,t),(b,u)] else [(b,u),(a,t)]
theorem SX.keep {L:Bool} {h h':Heap} {a:Addr} {l:List (Nat×Tok)} (x:SX L h a l) (k:∀ o,h.get? a=some o->h'.get? a=some o):SX L h' a l:=by
 obtain ⟨o,ep,e,r⟩:=x
 exact ⟨o,ep,k o e,r⟩
end
section
variable {prog:Program} {w:World} {A:Around} {E:Value->Shared->Prop} {s:Shared} {S:Addr} {o:Obj} {ep:Nat} {l:List (Nat×Tok)}
end
def aFA (w:World) (p:Addr) (a b:Nat):HO:=.ext fun h=>∃ t u,SX (Led w) h p (two a b t u)
section
variable {X:Cx}
end
structure Sub (prog:Program) (w:World) (i l:Addr) (n:Nat) (P:Nat->Value->Prop) (st:Nat->Heap->Prop):Prop where
 keep:∀ k h h',st k h->(∀ b,b=i∨b=l->∀ o,h.get? b=some o->h'.get? b=some o)->st k h'
 obj:∀ k h,st k h->(∃ o,h.get? i=some o/\∀ v,o.data≠.cell v)/\∃ o,h.get? l=some o
 item:∀ (A:Around) k (s:Shared) (Q:Value->Shared->Prop) (E:Value->Shared->Prop),k < n->st k s.heap->(∀ v h',P k v->st (k+1) h'->Heap.SameBut i s.heap h'->Q v { s with heap:=h' })->wpAny (model prog w) A (Builtin.SmallTypes.nextOf (.ref i)) Q E s
 done:∀ (A:Around) (s:Shared) (Q:Value->Shared->Prop) (E:Value->Shared->Prop),A.handled=none->st n s.heap->(∀ h' e,Heap.ExtBut i s.heap h'->(∃ o,h'.get? e=some o/\o.cls=.type "StopIteration")->E (.ref e) { s with heap:=h' }) ->
  wpAny (model prog w) A (Builtin.SmallTypes.nextOf (.ref i)) Q E s
theorem aBe (prog:Program) (w:World) (i l:Addr) (items:Array Value) (hne:l≠i):Sub prog w i l items.size (fun k v=>items[k]?=some v) (fun k h=>h.IsListIter i l k/\h.IsList l items) where
 keep:=fun k h h' st kp=>⟨st.1.at fun o e=>kp i (.inl rfl) o e,st.2.at fun o e=>kp l (.inr rfl) o e⟩
 obj:=fun k h st=>by
  obtain ⟨⟨o,e,_,d⟩,⟨o2,e2,_⟩⟩:=st
  exact ⟨⟨o,e,fun v z=>by rw [d] at z; cases z⟩,o2,e2⟩
 item:=fun A k s Q E hk st hQ=>wpAny_nextOf_list_item st.1 st.2 (Array.getElem?_eq_getElem hk) fun h' a b=>hQ _ h' (Array.getElem?_eq_getElem hk) ⟨a,st.2.at fun o e=>b.extBut l o hne e⟩ b
 done:=fun A s Q E hh st hE=>wpAny_nextOf_list_end hh st.1 st.2 (Array.getElem?_eq_none (Qh _)) hE
theorem mM {prog:Program} {w:World} {A:Around} {E:Value->Shared->Prop} {s:Shared} {it t:Addr} {i:Nat} {items:Array Value} {x:Value} {Q:Value->Shared->Prop} (hit:s.heap.IsTupleIter it t i) (ht:s.heap.IsTuple t items) (hx:items[i]?=some x)
  (hQ:∀ h',h'.IsTupleIter it t (i+1)->Heap.SameBut it s.heap h'->Q x { s with heap:=h' }):wpAny (model prog w) A (Builtin.SmallTypes.nextOf (.ref it)) Q E s:=by
 obtain ⟨o,ho,hc,hd⟩:=id hit
 obtain ⟨ol,hol,_,nl,hdl⟩:=ht
 have hT:=hit.typeIs
 unfold Builtin.SmallTypes.nextOf
 refine wpAny_bind (wpAny_callSpecial?_slot (name:=Str.ofString "__next__") hT PySem.F.slot_tuple_iterator_next (wpAny_call_entry PySem.F.slot_tuple_iterator_next hT PySem.F.entry_tuple_iterator_next ?_ (PySem.F.args_tuple_iterator_next_1 _)))
 refine wpAny_bind (m:=field (.ref it) 0) (wpAny_field ho hd (x:=.ref t) rfl ?_)
 have hno:¬ ((Value.ref t==Value.none)=true):=Qz
 show wpAny _ _ (if (Value.ref t==Value.none)=true then _ else _) _ _ s
 rw [if_neg hno]
 refine wpAny_bind (m:=field (.ref it) 1) (wpAny_field ho hd (x:=.int i 0) rfl ?_)
 refine wpAny_bind (m:=seqItems? (.ref t)) (wpAny_seqItems hol hdl ?_)
 simp only [Yy,hx]
 refine wpAny_bind (wpAny_setField ho hd (by simp) (wpAny_pure ⟨x,rfl,wpAny_pure (hQ _ ?_ (Heap.SameBut.update ..))⟩))
 refine ⟨_,Ze _ ho (Obj.isFreed_of_fields (Obj.data_mapFields hd _)),(Obj.cls_mapFields ..).trans hc,?_⟩
 rw [Obj.data_mapFields hd]
 simp [rawInt]
theorem nT {prog:Program} {w:World} {A:Around} {E:Value->Shared->Prop} {s:Shared} {it t:Addr} {i:Nat} {items:Array Value} {Q:Value->Shared->Prop} (hh:A.handled=none) (hit:s.heap.IsTupleIter it t i) (ht:s.heap.IsTuple t items) (hx:items[i]?=none)
  (hE:∀ h' e,Heap.ExtBut it s.heap h'->(∃ o,h'.get? e=some o/\o.cls=.type "StopIteration")->E (.ref e) { s with heap:=h' }):wpAny (model prog w) A (Builtin.SmallTypes.nextOf (.ref it)) Q E s:=by
 obtain ⟨o,ho,hc,hd⟩:=id hit
 obtain ⟨ol,hol,_,nl,hdl⟩:=ht
 have hT:=hit.typeIs
 unfold Builtin.SmallTypes.nextOf
 refine wpAny_bind (wpAny_callSpecial?_slot (name:=Str.ofString "__next__") hT PySem.F.slot_tuple_iterator_next (wpAny_call_entry PySem.F.slot_tuple_iterator_next hT PySem.F.entry_tuple_iterator_next ?_ (PySem.F.args_tuple_iterator_next_1 _)))
 refine wpAny_bind (m:=field (.ref it) 0) (wpAny_field ho hd (x:=.ref t) rfl ?_)
 have hno:¬ ((Value.ref t==Value.none)=true):=Qz
 show wpAny _ _ (if (Value.ref t==Value.none)=true then _ else _) _ _ s
 rw [if_neg hno]
 refine wpAny_bind (m:=field (.ref it) 1) (wpAny_field ho hd (x:=.int i 0) rfl ?_)
 refine wpAny_bind (m:=seqItems? (.ref t)) (wpAny_seqItems hol hdl ?_)
 simp only [Yy,hx]
 refine wpAny_bind (wpAny_rule (wpAny_bind (wpAny_setField ho hd (by simp) ?_)))
 refine wpAny_bind (m:=newExc (.type "StopIteration") []) ?_
 simp only [newExc,newTuple]
 refine wpAny_bind (wpAny_newObj_type ?_ (by size_fits))
 refine wpAny_bind (m:=firstArgMember _ _) (wpAny_of_eq (a:=Value.none) (by first | rfl | (simp only [firstArgMember]; rfl)) ?_)
 refine wpAny_newObj_type ?_ (by size_fits)
 simp only [raiseNew]
 refine wpAny_bind (wpAny_handled ?_)
 first | rw [show A.in1.handled=none from hh] | rw [hh]
 refine wpAny_bind (wpAny_pure (wpAny_throw ?_))
 exact hE _ _ (((Heap.SameBut.update ..).extBut.push _).push _) ⟨_,Qn _ rfl,rfl⟩
theorem aAk (prog:Program) (w:World) (i l:Addr) (items:Array Value) (hne:l≠i):Sub prog w i l items.size (fun k v=>items[k]?=some v) (fun k h=>h.IsTupleIter i l k/\h.IsTuple l items) where
 keep:=fun k h h' st kp=>⟨st.1.at fun o e=>kp i (.inl rfl) o e,by obtain ⟨o,e,r⟩:=st.2; exact ⟨o,kp l (.inr rfl) o e,r⟩⟩
 obj:=fun k h st=>by
  obtain ⟨⟨o,e,_,d⟩,⟨o2,e2,_⟩⟩:=st
  exact ⟨⟨o,e,fun v z=>by rw [d] at z; cases z⟩,o2,e2⟩
 item:=fun A k s Q E hk st hQ=>mM st.1 st.2 (Array.getElem?_eq_getElem hk) fun h' a b=>hQ _ h' (Array.getElem?_eq_getElem hk) ⟨a,by obtain ⟨o,e,r⟩:=st.2; exact ⟨o,b.extBut l o hne e,r⟩⟩ b
 done:=fun A s Q E hh st hE=>nT hh st.1 st.2 (Array.getElem?_eq_none (Qh _)) hE
section
variable {prog:Program} {w:World} {A:Around} {E:Value->Shared->Prop} {s:Shared} {z TI TO i1 i2 l1 l2:Addr} {n1 n2:Nat} {P1 P2:Nat->Value->Prop} {st1 st2:Nat->Heap->Prop}
theorem aCz {k:Nat} {a b:Value} {Q:Value->Shared->Prop} (D:ZipApart z TI TO i1 i2 l1 l2) (S1:Sub prog w i1 l1 n1 P1 st1) (S2:Sub prog w i2 l2 n2 P2 st2)
  (hz:IsZip s.heap z TI TO .none) (hTI:IsPair s.heap TI (.ref i1) (.ref i2)) (hTO:IsPair s.heap TO a b) (h1:st1 k s.heap) (h2:st2 k s.heap) (k1:k < n1) (k2:k < n2)
  (hQ:∀ h' x y,P1 k x->P2 k y->IsZip h' z TI TO (rawInt s.heap.objs.size)->IsPair h' TO x y->st1 (k+1) h'->st2 (k+1) h'->IsPair h' s.heap.objs.size x y ->
   (∀ c o,c≠z->c≠TO->c≠i1->c≠i2->s.heap.get? c=some o->h'.get? c=some o)->Q (.ref s.heap.objs.size) { s with heap:=h' }) :
  wpAny (model prog w) A (Builtin.«zip.__next__» ⟨[.ref z],[]⟩) (fun fin s'=>∃ v,fin=.done (.ret v)/\Q v s') E s:=by
 refine wpAny_bind (m:=field (.ref z) 2) (wpAny_field hz rfl (x:=.bool false) rfl ?_)
 refine wpAny_bind (m:=field (.ref z) 3) (wpAny_field hz rfl (x:=.ref TI) rfl ?_)
 refine wpAny_bind (wpAny_seqItems hTI rfl ?_)
 refine wpAny_bind (m:=Builtin.SmallTypes.ownedTupleIsFree (.ref z)) ?_
 unfold Builtin.SmallTypes.ownedTupleIsFree
 refine wpAny_bind (wpAny_field hz rfl (x:=.none) rfl (wpAny_pure ?_))
 simp only [if_true]
 refine wpAny_bind (wpAny_rule ?_)
 refine wpAny_bind (wpAny_field hz rfl (x:=.ref TO) rfl ?_)
 refine wpAny_bind (wpAny_setField_rec hz (by simp) fun g1 hz1 b1=>?_)
 have hz1':IsZip g1 z TI TO .ellipsis:=hz1
 refine wpAny_bind ?_
 simp only [Yg,Ym,Xw,Zc]
 -- the first one
 have s1:st1 k g1:=S1.keep _ _ _ h1 fun c hc o e=>b1.extBut c o (by rcases hc with r | r <;> rw [r]; exact D.i1z; exact D.l1z) e
 refine wpAny_bind (wpAny_bind (wpAny_onRaise ?_))
 refine wpAny_bind (m:=Builtin.SmallTypes.nextOf (.ref i1)) (S1.item _ k _ _ _ k1 s1 fun x g2 px t1 b2=>wpAny_pure ?_)
 have o2:IsPair g2 TO a b:=b2.extBut _ _ D.TOi1 (b1.extBut _ _ D.TOz hTO)
 refine wpAny_bind (wpAny_seqItems o2 rfl ?_)
 refine wpAny_bind (wpAny_updateSeq_pair o2 fun g3 o3 b3=>?_)
 have o3':IsPair g3 TO x b:=o3
 refine wpAny_bind (wpAny_letGo (wpAny_pure ?_))
 -- the second one
 have s2:st2 k g3:=S2.keep _ _ _ h2 fun c hc o e=>by
  rcases hc with r | r
  ·rw [r] at e ⊢; exact b3.extBut _ _ D.TOi2.symm (b2.extBut _ _ D.i12.symm (b1.extBut _ _ D.i2z e))
  ·rw [r] at e ⊢; exact b3.extBut _ _ D.l2TO (b2.extBut _ _ D.l2i1 (b1.extBut _ _ D.l2z e))
 refine wpAny_bind (wpAny_bind (wpAny_onRaise ?_))
 refine wpAny_bind (m:=Builtin.SmallTypes.nextOf (.ref i2)) (S2.item _ k _ _ _ k2 s2 fun y g4 py t2 b4=>wpAny_pure ?_)
 have o4:IsPair g4 TO x b:=b4.extBut _ _ D.TOi2 o3'
 refine wpAny_bind (wpAny_seqItems o4 rfl ?_)
 refine wpAny_bind (wpAny_updateSeq_pair o4 fun g5 o5 b5=>?_)
 have o5':IsPair g5 TO x y:=o5
 refine wpAny_bind (wpAny_letGo (wpAny_pure (wpAny_pure ?_)))
 refine wpAny_bind (wpAny_seqItems o5' rfl ?_)
 refine wpAny_bind (wpAny_newTuple ?_)
 have sz:g5.objs.size=s.heap.objs.size:=by rw [b5.1,b4.1,b3.1,b2.1,b1.1]
 have z5:IsZip g5 z TI TO .ellipsis:=b5.extBut _ _ D.TOz.symm (b4.extBut _ _ D.i2z.symm (b3.extBut _ _ D.TOz.symm (b2.extBut _ _ D.i1z.symm hz1')))
 have kp5:∀ c o,c≠z->c≠TO->c≠i1->c≠i2->s.heap.get? c=some o->g5.get? c=some o:=fun c o c1 c2 c3 c4 e =>
  b5.extBut _ _ c2 (b4.extBut _ _ c4 (b3.extBut _ _ c2 (b2.extBut _ _ c3 (b1.extBut _ _ c1 e))))
 have t1':st1 (k+1) g5:=S1.keep _ _ _ t1 fun c hc o e=>by
  rcases hc with r | r
  ·rw [r] at e ⊢; exact b5.extBut _ _ D.TOi1.symm (b4.extBut _ _ D.i12 (b3.extBut _ _ D.TOi1.symm e))
  ·rw [r] at e ⊢; exact b5.extBut _ _ D.l1TO (b4.extBut _ _ D.l1i2 (b3.extBut _ _ D.l1TO e))
 have t2':st2 (k+1) g5:=S2.keep _ _ _ t2 fun c hc o e=>by
  rcases hc with r | r
  ·rw [r] at e ⊢; exact b5.extBut _ _ D.TOi2.symm e
  ·rw [r] at e ⊢; exact b5.extBut _ _ D.l2TO e
 have zlt:g5.objs.size≠z:=Yd (Qm z5)
 refine wpAny_bind (m:=Builtin.SmallTypes.ownedTupleHandOut (.ref z) (.ref g5.objs.size)) ?_
 unfold Builtin.SmallTypes.ownedTupleHandOut
 have z6:IsZip (g5.push { cls:=.type "tuple",data:=.seq #[x,y] }) z TI TO .ellipsis:=Qb _ z5
 refine wpAny_bind (wpAny_setField_rec z6 (by simp) fun g7 z7 b7=>?_)
 have z7':IsZip g7 z TI TO (rawInt g5.objs.size):=z7
 refine wpAny_setField_rec z7' (by simp) fun g8 z8 b8=>?_
 have z8':IsZip g8 z TI TO (rawInt g5.objs.size):=z8
 have up:∀ c o,c≠z->g5.get? c=some o->g8.get? c=some o:=fun c o c1 e=>b8.extBut _ _ c1 (b7.extBut _ _ c1 (Qb _ e))
 have T8:IsPair g8 g5.objs.size x y:=b8.extBut _ _ zlt (b7.extBut _ _ zlt (Qn _ rfl))
 rw [sz] at z8' T8
 refine wpAny_pure ⟨_,rfl,?_⟩
 show Q (.ref g5.objs.size) _
 rw [sz]
 refine hQ g8 x y px py z8' (up _ _ D.TOz o5') (S1.keep _ _ _ t1' fun c hc o e=>up c o (by rcases hc with r | r <;> rw [r]; exact D.i1z; exact D.l1z) e) (S2.keep _ _ _ t2' fun c hc o e=>up c o (by rcases hc with r | r <;> rw [r]; exact D.i2z; exact D.l2z) e) T8 fun c o c1 c2 c3 c4 e=>up c o c1 (kp5 c o c1 c2 c3 c4 e)
theorem aD6 {k:Nat} {a b:Value} {Q:Fin->Shared->Prop} (hh:A.handled=none) (D:ZipApart z TI TO i1 i2 l1 l2) (S1:Sub prog w i1 l1 n1 P1 st1) (S2:Sub prog w i2 l2 n2 P2 st2)
  (hz:IsZip s.heap z TI TO .none) (hTI:IsPair s.heap TI (.ref i1) (.ref i2)) (hTO:IsPair s.heap TO a b) (h1:st1 k s.heap) (h2:st2 k s.heap) (hend:k=n1/\k<=n2∨k=n2/\k < n1)
  (hE:∀ h' e,(∀ c o,c≠z->c≠TO->c≠i1->c≠i2->s.heap.get? c=some o->h'.get? c=some o)->(∃ o,h'.get? e=some o/\o.cls=.type "StopIteration")->E (.ref e) { s with heap:=h' }) :
  wpAny (model prog w) A (Builtin.«zip.__next__» ⟨[.ref z],[]⟩) Q E s:=by
 refine wpAny_bind (m:=field (.ref z) 2) (wpAny_field hz rfl (x:=.bool false) rfl ?_)
 refine wpAny_bind (m:=field (.ref z) 3) (wpAny_field hz rfl (x:=.ref TI) rfl ?_)
 refine wpAny_bind (wpAny_seqItems hTI rfl ?_)
 refine wpAny_bind (m:=Builtin.SmallTypes.ownedTupleIsFree (.ref z)) ?_
 unfold Builtin.SmallTypes.ownedTupleIsFree
 refine wpAny_bind (wpAny_field hz rfl (x:=.none) rfl (wpAny_pure ?_))
 simp only [if_true]
 refine wpAny_bind (wpAny_rule ?_)
 refine wpAny_bind (wpAny_field hz rfl (x:=.ref TO) rfl ?_)
 refine wpAny_bind (wpAny_setField_rec hz (by simp) fun g1 hz1 b1=>?_)
 have hz1':IsZip g1 z TI TO .ellipsis:=hz1
 refine wpAny_bind ?_
 simp only [Yg,Ym,Xw,Zc]
 have s1:st1 k g1:=S1.keep _ _ _ h1 fun c hc o e=>b1.extBut c o (by rcases hc with r | r <;> rw [r]; exact D.i1z; exact D.l1z) e
 refine wpAny_bind (wpAny_bind (wpAny_onRaise ?_))
 have fin:∀ (g:Heap) (e:Addr) (g0:Heap),(∃ o,g.get? e=some o/\o.cls=.type "StopIteration")->IsZip g z TI TO .ellipsis->(∀ c o,c≠z->c≠TO->c≠i1->c≠i2->s.heap.get? c=some o->g.get? c=some o) ->
   wpAny (model prog w) A (setField (.ref z) 0 .none) (fun _ s'=>E (.ref e) s') E { s with heap:=g }:=fun g e g0 ⟨oe,hoe,hce⟩ hzz kp=>by
  have hez:e≠z:=fun q=>by rw [q,hzz] at hoe; cases hoe; simp at hce
  exact wpAny_setField_rec hzz (by simp) fun g' _ b'=>hE g' e (fun c o c1 c2 c3 c4 q=>b'.extBut _ _ c1 (kp c o c1 c2 c3 c4 q)) ⟨oe,b'.extBut _ _ hez hoe,hce⟩
 rcases hend with ⟨e1,_⟩ | ⟨e2,k1⟩
 ·rw [e1] at s1
  refine wpAny_bind (m:=Builtin.SmallTypes.nextOf (.ref i1)) (S1.done _ _ _ _ hh s1 fun g2 e b2 he=>?_)
  exact fin g2 e g1 he (b2 _ _ D.i1z.symm hz1') fun c o c1 _ c3 _ q=>b2 _ _ c3 (b1.extBut _ _ c1 q)
 ·refine wpAny_bind (m:=Builtin.SmallTypes.nextOf (.ref i1)) (S1.item _ k _ _ _ k1 s1 fun x g2 px t1 b2=>wpAny_pure ?_)
  have o2:IsPair g2 TO a b:=b2.extBut _ _ D.TOi1 (b1.extBut _ _ D.TOz hTO)
  refine wpAny_bind (wpAny_seqItems o2 rfl ?_)
  refine wpAny_bind (wpAny_updateSeq_pair o2 fun g3 o3 b3=>?_)
  refine wpAny_bind (wpAny_letGo (wpAny_pure ?_))
  have s2:st2 n2 g3:=by
   rw [<- e2]
   exact S2.keep _ _ _ h2 fun c hc o e=>by
    rcases hc with r | r
    ·rw [r] at e ⊢; exact b3.extBut _ _ D.TOi2.symm (b2.extBut _ _ D.i12.symm (b1.extBut _ _ D.i2z e))
    ·rw [r] at e ⊢; exact b3.extBut _ _ D.l2TO (b2.extBut _ _ D.l2i1 (b1.extBut _ _ D.l2z e))
  refine wpAny_bind (wpAny_bind (wpAny_onRaise ?_))
  refine wpAny_bind (m:=Builtin.SmallTypes.nextOf (.ref i2)) (S2.done _ _ _ _ hh s2 fun g4 e b4 he=>?_)
  exact fin g4 e g3 he (b4 _ _ D.i2z.symm (b3.extBut _ _ D.TOz.symm (b2.extBut _ _ D.i1z.symm hz1'))) fun c o c1 c2 c3 c4 q=>b4 _ _ c4 (b3.extBut _ _ c2 (b2.extBut _ _ c3 (b1.extBut _ _ c1 q)))
end
inductive Sk where
 | l | t
def SqK (k:Sk) (K:PySem.W.Frag) (H:Hp) (a:Addr) (xs:List V):Prop:=match k with | .l=>SqL K H a xs | .t=>SqT K H a xs
def AtK (k:Sk) (h:Heap) (a:Addr) (its:Array Value):Prop:=match k with | .l=>h.IsList a its | .t=>h.IsTuple a its
def ItK (k:Sk) (h:Heap) (i a:Addr) (n:Nat):Prop:=match k with | .l=>h.IsListIter i a n | .t=>h.IsTupleIter i a n
def itK (k:Sk) (a:Addr):Obj:=match k with | .l=>{ cls:=.type "list_iterator",data:=.fields #[.ref a,.int 0 0] } | .t=>{ cls:=.type "tuple_iterator",data:=.fields #[.ref a,.int 0 0] }
theorem ItK.new (k:Sk) (h:Heap) (a:Addr):ItK k (h.push (itK k a)) h.objs.size a 0:=by
 cases k
 ·exact ⟨_,Qn _ rfl,rfl,rfl⟩
 ·exact ⟨_,Qn _ rfl,rfl,rfl⟩
theorem ItK.obj {k:Sk} {h:Heap} {i a:Addr} {n:Nat} (x:ItK k h i a n):∃ o,h.get? i=some o/\∀ v,o.data≠.cell v:=by
 cases k
 ·obtain ⟨o,e,_,d⟩:=x; exact ⟨o,e,fun v z=>by rw [d] at z; cases z⟩
 ·obtain ⟨o,e,_,d⟩:=x; exact ⟨o,e,fun v z=>by rw [d] at z; cases z⟩
theorem ItK.at {k:Sk} {h h':Heap} {i a:Addr} {n:Nat} (x:ItK k h i a n) (kp:∀ o,h.get? i=some o->h'.get? i=some o):ItK k h' i a n:=by
 cases k
 ·exact Heap.IsListIter.at x kp
 ·exact Heap.IsTupleIter.at x kp
theorem AtK.at {k:Sk} {h h':Heap} {a:Addr} {its:Array Value} (x:AtK k h a its) (kp:∀ o,h.get? a=some o->h'.get? a=some o):AtK k h' a its:=by
 cases k
 ·exact Heap.IsList.at x kp
 ·obtain ⟨o,e,r⟩:=x; exact ⟨o,kp o e,r⟩
theorem rR (k:Sk) (prog:Program) (w:World) (i l:Addr) (items:Array Value) (hne:l≠i):Sub prog w i l items.size (fun j v=>items[j]?=some v) (fun j h=>ItK k h i l j/\AtK k h l items):=by
 cases k
 ·exact aBe prog w i l items hne
 ·exact aAk prog w i l items hne
theorem vN {prog:Program} {w:World} {A:Around} {E:Value->Shared->Prop} {s:Shared} {k:Sk} {a:Addr} {its:Array Value} {Q:Value->Shared->Prop} (h:AtK k s.heap a its) (hQ:Q (.ref s.heap.objs.size) { s with heap:=s.heap.push (itK k a) }):wpAny (model prog w) A (pyIter (.ref a)) Q E s:=by
 cases k
 ·exact wpAny_pyIter_list h hQ
 ·exact wpAny_pyIter_tuple h hQ
section
variable {X:Cx} {pins:List (Addr×Obj)} {σ:St} {H:Hp} {s:Shared}
theorem Inv.seqK (I:Inv X pins σ H s) {k:Sk} {a:Addr} {xs:List V} (h:SqK k X.K H a xs):∃ its:List Value,bF xs its/\AtK k s.heap a its.toArray:=by
 cases k
 ·obtain ⟨its,r,p,_⟩:=I.list h; exact ⟨its,r,p.isList⟩
 ·obtain ⟨its,r,p,_⟩:=I.tuple h; exact ⟨its,r,p⟩
theorem Inv.seqK_inj (I:Inv X pins σ H s) {k:Sk} {a:Addr} {xs ys:List V} (h:SqK k X.K H a xs) (h':SqK k X.K H a ys):xs=ys:=by
 cases k
 ·exact I.list_inj h h'
 ·exact I.tuple_inj h h'
theorem Inv.seq_ne (I:Inv X pins σ H s) {k:Sk} {a b:Addr} {xs:List V} (h:SqK k X.K H a xs) (f:iL X pins H b):a≠b:=by
 have rd:∀ {u:HO},Rd H a u->a≠b:=fun {u} r z=>by
  rcases r with r | ⟨o,r⟩ <;> (rw [z,f.1] at r; cases r)
 have kk:∀ {o:Obj},X.K.lookup a=some o->a≠b:=fun {o} e z=>by
  have e1:=I.ok.mod.kin a o e
  rcases f.2.2.2.1 with q | q
  ·exact I.ok.noex a o e1 (z ▸ q)
  ·exact Qy _ (Qi (Qm (I.ok.bs a o e1).1) (z ▸ q))
 cases k
 ·rcases h with h | ⟨o,_,_,e,_⟩
  ·exact rd h
  ·exact kk e
 ·rcases h with h | ⟨o,_,_,e,_⟩
  ·exact rd h
  ·exact kk e
theorem Inv.turnedL {h':Heap} {t':Nat} (ch:List Addr) (I:Inv X pins σ H s) (k:∀ b o,b∉ch->s.heap.get? b=some o->h'.get? b=some o) (f:∀ b∈ch,iL X pins H b):Inv X pins σ H { s with heap:=h',toks:=t' }:=by
 have nit:∀ b u,H b=some u->b∉ch:=fun b u e z=>by rw [(f b z).1] at e; cases e
 have nL:X.env.locals∉ch:=fun z=>(f _ z).2.1 rfl
 refine I.step (g':=s.gens) (d':=s.drawn) (ch:=ch) (fun b hb=>⟨(f b hb).2.2.2.1,(f b hb).2.1,(f b hb).2.2.2.2.1,(f b hb).2.2.2.2.2⟩) (fun b o _ _ hc e _=>k b o hc e) (fun b o _ _ hc e _=>⟨o.slots,k b o hc e⟩) (fun _ _ _ _ n=>n)
  (fun b o hc e=>⟨o,k b o hc e⟩) (fun _ _ e=>e) (fun _ _ _ e=>e) (fun b ps e=>⟨#[],by rw [e]; simp⟩) (fun m hm=>?_) (fun b u e=>?_) I.bare
 ·obtain ⟨o,es,ep,ho,r⟩:=hm
  exact ⟨o,es,ep,k _ o nL ho,r⟩
 ·refine (I.hok b u e).stay (fun c v hc q=>k c v ?_ q) (fun _ q=>q) fun _ _ q=>q
  rcases hc with z | z
  ·rw [z]; exact nit b u e
  ·exact nit c _ z
theorem Inv.trackO {D:Addr} {u:HO} (I:Inv X pins σ H s) (new:cJ X.prog X.w (upd H D u) s.heap D u) (hn:H D=none) (hL:D≠X.env.locals)
  (h1:X.s₀.heap.objs.size<=D) (h2:∀ x c,X.env.cells.lookup x=some c->c≠D) (h3:∀ p∈X.pn++pins,p.1≠D):Inv X pins σ (upd H D u) s:=by
 have ne:∀ b v,H b=some v->b≠D:=fun b v e z=>by rw [z,hn] at e; cases e
 refine I.step (g':=s.gens) (d':=s.drawn) (t':=s.toks) (h':=s.heap) (ch:=[D]) (fun b hb=>?_) (fun b o _ _ _ e _=>e) (fun b o _ _ _ e _=>⟨o.slots,e⟩) (fun b o hc _ n=>?_) (fun b o _ e=>⟨o,e⟩)
  (fun b xs e=>by rw [aG (ne b _ e)]; exact e) (fun b o v e=>by rw [aG (ne b _ e)]; exact e) (fun b ps e=>⟨#[],by rw [aG (ne b _ e),e]; simp⟩) (fun _ h=>h) (fun b v e=>?_) I.bare
 ·have e:b=D:=by simpa using hb
  subst e
  exact ⟨.inr h1,hL,h2,h3⟩
 ·rw [aG (by simpa using hc)]; exact n
 ·by_cases hb:b=D
  ·subst hb
   rw [aB] at e; cases e
   exact new
  ·rw [aG hb] at e
   exact (I.hok b v e).stay (fun c v _ q=>q) (fun c q=>by rw [aG (ne c _ q)]; exact q) fun c xs q=>by rw [aG (ne c _ q)]; exact q
end
def Itz (K:PySem.W.Frag) (k1 k2:Sk) (a b:Addr):It :=
 ⟨fun i H => ∃ xs ys x y, SqK k1 K H a xs /\ SqK k2 K H b ys /\ xs[i]? = some x /\ ys[i]? = some y,
  fun i H v H'=>∃ p,H p=none/\v=.ref p/\∀ xs ys,SqK k1 K H a xs->SqK k2 K H b ys->∃ x y,xs[i]?=some x/\ys[i]?=some y/\H'=upd H p (.tup [x,y]),
  fun i H=>∃ xs ys,SqK k1 K H a xs/\SqK k2 K H b ys/\min xs.length ys.length=i⟩
theorem aBf {P:Program} {w:World} {K:PySem.W.Frag} {es:List Expr} {x1} {pos:Pos} (k1 k2:Sk) (a b z TI TO i1 i2:Addr) (D:∀ l1 l2:Addr,(∀ c∈[z,TI,TO,i1,i2],l1≠c)->(∀ c∈[z,TI,TO,i1,i2],l2≠c)->ZipApart z TI TO i1 i2 l1 l2) :
  Turn P w K (.Tuple es x1 pos) (Itz K k1 k2 a b) [z,TI,TO,i1,i2] z (fun i h=>IsZip h z TI TO .none/\IsPair h TI (.ref i1) (.ref i2)/\(∃ x y,IsPair h TO x y)/\ItK k1 h i1 a i/\ItK k2 h i2 b i) where
 mem:=by simp
 obj:=fun i h st c hc=>by
  obtain ⟨hz,hTI,⟨x,y,hTO⟩,h1,h2⟩:=st
  simp only [Ql,Ja,or_false] at hc
  rcases hc with rfl | rfl | rfl | rfl | rfl
  ·exact ⟨_,hz,fun v q=>by cases q⟩
  ·exact ⟨_,hTI,fun v q=>by cases q⟩
  ·exact ⟨_,hTO,fun v q=>by cases q⟩
  ·exact h1.obj
  ·exact h2.obj
 keep:=fun i h h' st k=>by
  obtain ⟨hz,hTI,⟨x,y,hTO⟩,h1,h2⟩:=st
  exact ⟨k z (by simp) _ hz,k TI (by simp) _ hTI,⟨x,y,k TO (by simp) _ hTO⟩,h1.at fun o e=>k i1 (by simp) o e,h2.at fun o e=>k i2 (by simp) o e⟩
 item:=by
  intro X hP hw hK hc i pins s σ H E I hf st hg
  subst hP hw hK
  obtain ⟨hz,hTI,⟨x0,y0,hTO⟩,h1,h2⟩:=st
  obtain ⟨xs,ys,x,y,ha,hb,hx,hy⟩:=hg
  obtain ⟨its,rv,pa⟩:=I.seqK ha
  obtain ⟨jts,rw',pb⟩:=I.seqK hb
  obtain ⟨u,hu,ru⟩:=rv.get hx
  obtain ⟨v,hv,rv2⟩:=rw'.get hy
  have na:∀ c∈[z,TI,TO,i1,i2],a≠c:=fun c hc'=>I.seq_ne ha (hf c hc')
  have nb:∀ c∈[z,TI,TO,i1,i2],b≠c:=fun c hc'=>I.seq_ne hb (hf c hc')
  have DD:=D a b na nb
  have hT:s.TypeIs (.ref z) "zip" := ⟨_,hz,rfl⟩
  have hi1:i < its.toArray.size:=by rw [Qj]; exact (Qd.mp hu).1
  have hi2:i < jts.toArray.size:=by rw [Qj]; exact (Qd.mp hv).1
  unfold pyNext
  refine wpAny_bind (wpAny_attempt (wpAny_callSpecial?_slot (name:=Str.ofString "__next__") hT PySem.F.slot_zip_next (wpAny_call_entry PySem.F.slot_zip_next hT PySem.F.entry_zip_next
   (aCz DD (rR k1 X.prog X.w i1 a its.toArray (na i1 (by simp))) (rR k2 X.prog X.w i2 b jts.toArray (nb i2 (by simp))) hz hTI hTO ⟨h1,pa⟩ ⟨h2,pb⟩ hi1 hi2 fun h' u' v' pu pv hz' hTO' s1 s2 hT' kp=>wpAny_pure ?_) (PySem.F.args_zip_next_1 _))))
  have eu:u'=u:=by
   have q:its[i]?=some u':=by simpa using pu
   rw [hu] at q
   exact (Option.some.inj q).symm
  have ev:v'=v:=by
   have q:jts[i]?=some v':=by simpa using pv
   rw [hv] at q
   exact (Option.some.inj q).symm
  subst eu ev
  refine ⟨_,rfl,wpAny_letOwnedTupleGo_zip hz' fun h2 hz2 sb2=>?_⟩
  have Tz:s.heap.objs.size≠z:=Yd (Qm hz)
  have hT2:IsPair h2 s.heap.objs.size u' v':=sb2.extBut _ _ Tz hT'
  have hf0:=I.hok.fresh (Qh s.heap.objs.size)
  have fz:=I.fpOk (Qh s.heap.objs.size) hf0
  have I2:Inv X pins σ H { s with heap:=h2 }:=by
   refine I.turnedL (t':=s.toks) [z,TO,i1,i2] (fun c o hc' e=>?_) (fun c hc'=>hf c ?_)
   ·simp only [Ql,Ja,or_false,not_or] at hc'
    exact sb2.extBut _ _ hc'.1 (kp c o hc'.1 hc'.2.1 hc'.2.2.1 hc'.2.2.2 e)
   ·simp only [Ql,Ja,or_false] at hc' ⊢
    rcases hc' with r | r | r | r
    ·exact .inl r
    ·exact .inr (.inr (.inl r))
    ·exact .inr (.inr (.inr (.inl r)))
    ·exact .inr (.inr (.inr (.inr r)))
  have I3:Inv X pins σ (upd H s.heap.objs.size (.tup [x,y])) { s with heap:=h2 }:=by
   refine I2.trackO (show cJ X.prog X.w _ _ _ (.tup [x,y]) from ⟨by show 2<=sizeLine; rw [sizeLine_eq]; decide,[u',v'],0,.cons ru (.cons rv2 .nil),hT2⟩) hf0 fz.2.1 I.sz fz.2.2.2.2.1 fz.2.2.2.2.2
  refine ⟨.ref s.heap.objs.size,_,I3,rfl,⟨s.heap.objs.size,hf0,rfl,fun xs' ys' ha' hb'=>?_⟩,⟨hz2,sb2.extBut _ _ DD.TIz (kp _ _ DD.TIz DD.TITO DD.TIi1 DD.TIi2 hTI),⟨_,_,sb2.extBut _ _ DD.TOz hTO'⟩,s1.1.at fun o e=>sb2.extBut _ _ DD.i1z e,s2.1.at fun o e=>sb2.extBut _ _ DD.i2z e⟩,fun c hc'=>?_⟩
  ·rw [I.seqK_inj ha' ha,I.seqK_inj hb' hb]
   exact ⟨x,y,hx,hy,rfl⟩
  ·have cl:c≠s.heap.objs.size:=by
    obtain ⟨o,e⟩:∃ o,s.heap.get? c=some o:=by
     simp only [Ql,Ja,or_false] at hc'
     rcases hc' with rfl | rfl | rfl | rfl | rfl
     ·exact ⟨_,hz⟩
     ·exact ⟨_,hTI⟩
     ·exact ⟨_,hTO⟩
     ·obtain ⟨o,e,_⟩:=h1.obj; exact ⟨o,e⟩
     ·obtain ⟨o,e,_⟩:=h2.obj; exact ⟨o,e⟩
    exact Jr (Qm e)
   rw [aG cl]
   exact (hf c hc').1
 done:=by
  intro X hP hw hK hc i pins s σ H E I hf st hg
  subst hP hw hK
  obtain ⟨hz,hTI,⟨x0,y0,hTO⟩,h1,h2⟩:=st
  obtain ⟨xs,ys,ha,hb,hmin⟩:=hg
  obtain ⟨its,rv,pa⟩:=I.seqK ha
  obtain ⟨jts,rw',pb⟩:=I.seqK hb
  have la:=rv.length
  have lb:=rw'.length
  have na:∀ c∈[z,TI,TO,i1,i2],a≠c:=fun c hc'=>I.seq_ne ha (hf c hc')
  have nb:∀ c∈[z,TI,TO,i1,i2],b≠c:=fun c hc'=>I.seq_ne hb (hf c hc')
  have DD:=D a b na nb
  have hT:s.TypeIs (.ref z) "zip" := ⟨_,hz,rfl⟩
  unfold pyNext
  refine wpAny_bind (wpAny_attempt (wpAny_callSpecial?_slot (name:=Str.ofString "__next__") hT PySem.F.slot_zip_next (wpAny_call_entry PySem.F.slot_zip_next hT PySem.F.entry_zip_next
   (aD6 (I.ok.hd hc) DD (rR k1 X.prog X.w i1 a its.toArray (na i1 (by simp))) (rR k2 X.prog X.w i2 b jts.toArray (nb i2 (by simp))) hz hTI hTO ⟨h1,pa⟩ ⟨h2,pb⟩ (by rw [Qj,Qj]; omega) fun h' e kp he=>?_) (PySem.F.args_zip_next_1 _))))
  obtain ⟨oe,hoe,hce⟩:=he
  refine wpAny_bind (wpAny_isInstance (T := "StopIteration") (b:=true) ⟨oe,hoe,hce⟩ isSubtype_stop (wpAny_pure ⟨rfl,?_⟩))
  refine I.turnedL (t':=s.toks) [z,TO,i1,i2] (fun c o hc' e=>?_) (fun c hc'=>hf c ?_)
  ·simp only [Ql,Ja,or_false,not_or] at hc'
   exact kp c o hc'.1 hc'.2.1 hc'.2.2.1 hc'.2.2.2 e
  ·simp only [Ql,Ja,or_false] at hc' ⊢
   rcases hc' with r | r | r | r
   ·exact .inl r
   ·exact .inr (.inr (.inl r))
   ·exact .inr (.inr (.inr (.inl r)))
   ·exact .inr (.inr (.inr (.inr r)))
 self:=fun _ _ _ _ _ st h=>wpAny_pyIter_zip st.1 h
abbrev zh1 (k1:Sk) (h:Heap) (a:Addr):Heap:=h.push (itK k1 a)
abbrev zh2 (k1 k2:Sk) (h:Heap) (a b:Addr):Heap:=(zh1 k1 h a).push (itK k2 b)
abbrev zh3 (k1 k2:Sk) (h:Heap) (a b:Addr):Heap:=(zh2 k1 k2 h a b).push { cls:=.type "tuple",data:=.seq #[.ref h.objs.size,.ref (zh1 k1 h a).objs.size] }
abbrev zh4 (k1 k2:Sk) (h:Heap) (a b:Addr):Heap:=(zh3 k1 k2 h a b).push { cls:=.type "tuple",data:=.seq #[.none,.none] }
abbrev zh5 (k1 k2:Sk) (h:Heap) (a b:Addr):Heap:=(zh4 k1 k2 h a b).push { cls:=.type "zip",data:=.fields #[.none,.bool false,.bool false,.ref (zh2 k1 k2 h a b).objs.size,.ref (zh3 k1 k2 h a b).objs.size] }
theorem vO (k1 k2:Sk) (a b:Addr) (xs ys:Array Value) :
  Meets (Builtin.«zip.__new__» ⟨[.type "zip",.ref a,.ref b],[]⟩) (fun _ R s=>AtK k1 s.heap a xs/\AtK k2 s.heap b ys/\R (.ok (.ret (.ref (zh4 k1 k2 s.heap a b).objs.size))) { s with heap:=zh5 k1 k2 s.heap a b }) :=
 .of_wp fun prog w A R s h=>by
  obtain ⟨hp,g,d,tk,os⟩:=s
  obtain ⟨hl1,hl2,h⟩:=h
  have hsub:=sub_zip
  have hA:AtK k1 (Shared.heap ⟨hp,g,d,tk,os⟩) a xs:=hl1
  have hB:AtK k2 (Shared.heap ⟨hp.push (itK k1 a),g,d,tk,os⟩) b ys:=AtK.at hl2 fun o e=>Qb _ e
  wp_walk using vN hA,vN hB
  exact ⟨_,rfl,h⟩
section
variable {X:Cx} {es:List Expr} {x1:Nat} {tpos:Pos}
def aFB (K:PySem.W.Frag) (k1 k2:Sk) (ta:TA):TI:=fun σ H R=>ta σ H fun vs H1=>∃ a b xs ys,vs = [.ref a,.ref b]/\SqK k1 K H1 a xs/\SqK k2 K H1 b ys/\R (Itz K k1 k2 a b) H1
theorem aD7 (k1 k2:Sk) {a b:Expr} {ta:TA} {p pos:Pos} (hg:Gl X "zip") (hm:X.mg "zip" = none) (ha:PA X [a,b] ta) (hs:starEach [a,b] X.env = [(false,eval a X.env),(false,eval b X.env)]:=by rfl) (hs2:starEach [b] X.env = [(false,eval b X.env)]:=by rfl) :
  PI X (.Tuple es x1 tpos) (.Call (.Name "zip" p) [a,b] [] pos) (aFB X.K k1 k2 ta):=by
 intro pins s σ H R I h
 refine Call_ (kB (u:=.type "zip") I hg hm (by decide +kernel) (PyProof.Rows.callWith_type1 (thn (ha pos pins s σ H _ I h) fun us s1 hx9=>?_) (by rw [hs,hs2]) (by rw [hs2]; rfl)))
 obtain ⟨vs,H1,I1,r1,q1⟩:=hx9
 obtain ⟨l1,l2,xs,ys,rfl,hA,hB,q⟩:=q1
 obtain ⟨u1,u2,rfl,r1',r2'⟩:=lX r1
 cases r1'
 cases r2'
 obtain ⟨its,rv,pa⟩:=I1.seqK hA
 obtain ⟨jts,rw',pb⟩:=I1.seqK hB
 refine callType_new PySem.F.called_zip (by decide) (PySem.F.typeCall_zip_2 _ _) (PySem.F.newCall_zip_2 _ _) (fun obj=>PySem.F.args_object_init_3 obj _ _) PySem.F.entry_zip_new (vO k1 k2 l1 l2 its.toArray jts.toArray) ⟨pa,pb,?_⟩
 have n1:(zh1 k1 s1.heap l1).objs.size=s1.heap.objs.size+1:=Js ..
 have n2:(zh2 k1 k2 s1.heap l1 l2).objs.size=s1.heap.objs.size+2:=by rw [Js,n1]
 have n3:(zh3 k1 k2 s1.heap l1 l2).objs.size=s1.heap.objs.size+3:=by rw [Js,n2]
 have n4:(zh4 k1 k2 s1.heap l1 l2).objs.size=s1.heap.objs.size+4:=by rw [Js,n3]
 have g5:IsZip (zh5 k1 k2 s1.heap l1 l2) (zh4 k1 k2 s1.heap l1 l2).objs.size (zh2 k1 k2 s1.heap l1 l2).objs.size (zh3 k1 k2 s1.heap l1 l2).objs.size .none:=Qn _ rfl
 have g4:IsPair (zh5 k1 k2 s1.heap l1 l2) (zh3 k1 k2 s1.heap l1 l2).objs.size .none .none:=Qb _ (Qn _ rfl)
 have g3:IsPair (zh5 k1 k2 s1.heap l1 l2) (zh2 k1 k2 s1.heap l1 l2).objs.size (.ref s1.heap.objs.size) (.ref (zh1 k1 s1.heap l1).objs.size):=Qb _ (Qb _ (Qn _ rfl))
 have g2:ItK k2 (zh5 k1 k2 s1.heap l1 l2) (zh1 k1 s1.heap l1).objs.size l2 0:=(ItK.new k2 (zh1 k1 s1.heap l1) l2).at fun o e=>Qb _ (Qb _ (Qb _ e))
 have g1:ItK k1 (zh5 k1 k2 s1.heap l1 l2) s1.heap.objs.size l1 0:=(ItK.new k1 s1.heap l1).at fun o e=>Qb _ (Qb _ (Qb _ (Qb _ e)))
 have kp:∀ c o,s1.heap.get? c=some o->(zh5 k1 k2 s1.heap l1 l2).get? c=some o:=fun c o e=>Qb _ (Qb _ (Qb _ (Qb _ (Qb _ e))))
 refine ⟨⟨_,g5,rfl⟩,wpAny_pyIter_zip (f0:=.none) g5 ?_⟩
 rw [n1,n2,n3,n4] at *
 have I2:Inv X pins σ H1 { s1 with heap:=zh5 k1 k2 s1.heap l1 l2 }:=I1.kept (t':=s1.toks) kp
 refine ⟨s1.heap.objs.size+4,[s1.heap.objs.size+4,s1.heap.objs.size+2,s1.heap.objs.size+3,s1.heap.objs.size,s1.heap.objs.size+1],_,_,H1,rfl,I2,aBf k1 k2 l1 l2 _ _ _ _ _ ?_,⟨g5,g3,⟨_,_,g4⟩,g1,g2⟩,fun c hc=>?_,q⟩
 ·intro m1 m2 h1 h2
  have d:∀ i j:Nat,i≠j->s1.heap.objs.size+i≠s1.heap.objs.size+j:=fun i j h=>by omega
  exact ⟨d 2 4 (by decide),d 3 4 (by decide),d 0 4 (by decide),d 1 4 (by decide),d 2 3 (by decide),d 2 0 (by decide),d 2 1 (by decide),d 3 0 (by decide),d 3 1 (by decide),d 0 1 (by decide),
   h1 _ (by simp),h1 _ (by simp),h1 _ (by simp),h1 _ (by simp),h2 _ (by simp),h2 _ (by simp),h2 _ (by simp),h2 _ (by simp)⟩
 ·have hc':s1.heap.objs.size<=c:=by
   simp only [Ql,Ja,or_false] at hc
   rcases hc with r | r | r | r | r
   ·rw [r]; exact Xq _ _
   ·rw [r]; exact Xq _ _
   ·rw [r]; exact Xq _ _
   ·rw [r]; exact Qh _
   ·rw [r]; exact Xq _ _
  exact I1.fpOk hc' (I1.hok.fresh hc')
end
open PySem.AutoSeq1 (wpAny_loadPart')
theorem rS (l b:Addr) (items items2:Array Value) (n n2:Nat) (dd dd2:Option Addr) (sl sl2:Array (Option Value)) (hc0:items.isEmpty=true) :
  Meets (Builtin.«tuple.__add__» ⟨[.ref l,.ref b],[]⟩) (fun _ R s=>s.heap.get? l=some { cls:=.type "tuple",dict:=dd,data:=.seq items n,slots:=sl }/\s.heap.get? b=some { cls:=.type "tuple",dict:=dd2,data:=.seq items2 n2,slots:=sl2 }/\R (.ok (.ret (Value.ref b))) s) :=
 .of_wp fun prog w A R s h=>by
  obtain ⟨hp,g,d,tk,os⟩:=s
  obtain ⟨hl,hb,h⟩:=h
  have f1:=AutoSeq1.idx_int
  have f2:=AutoSeq1.sub_tuple_tuple
  wp_walk using wpAny_loadPart' hl,wpAny_loadPart' hb
  exact ⟨_,rfl,h⟩
section
variable {X:Cx}
theorem aCA:OpR X (binaryOp .Add) (fun x y H Q=>∃ a b xs ys,x=.ref a/\y=.ref b/\SqT X.K H a xs/\SqT X.K H b ys/\xs.length+ys.length<=sizeLine/\∀ p H',aC H H'->SqT X.K H' p (xs++ys)->Q (.ref p) H'):=by
 intro pins s σ H x y v u Q I rx ry h
 obtain ⟨a,b,xs,ys,rfl,rfl,ha,hb,hz,q⟩:=h
 by_cases hx:xs = []
 ·subst hx
  cases rx
  cases ry
  obtain ⟨its,r1,⟨⟨cls,dd,data,sl⟩,ho,hc,n,hd⟩,_⟩:=I.tuple ha
  obtain ⟨its2,r2,⟨⟨cls2,dd2,data2,sl2⟩,ho2,hc2,n2,hd2⟩,_⟩:=I.tuple hb
  simp only at hc hd hc2 hd2
  subst hc hd hc2 hd2
  cases r1
  exact concat_meets ⟨_,ho,rfl⟩ ⟨_,ho2,rfl⟩ noFill_tuple_add seq_tuple_add PySem.F.slot_tuple_add PySem.F.entry_tuple_add (PySem.F.args_tuple_add_2 _ _)
   (rS a b _ _ n n2 dd dd2 sl sl2 rfl) ⟨ho,ho2,⟨.ref b,H,I,rfl,q b H (aC.refl H) hb⟩⟩
 ·refine aCv pins s σ H _ _ v u Q I rx ry ⟨a,b,xs,ys,rfl,rfl,ha,hb,hx,hz,fun e=>?_,fun e p hp=>?_⟩
  ·subst e
   exact q a H (aC.refl H) (by rw [Jw]; exact ha)
  ·exact q p _ (aC.new hp) (SqT.of aB)
theorem sR (xs:List V) (k:Nat):vG xs (some (k:Int)) none=xs.drop k:=by
 unfold vG
 rw [HT.sIx_none,HT.sIx_nat]
 by_cases h:k<=xs.length
 ·rw [Nat.min_eq_left h,Xe (by rw [Ye]; exact Qh _)]
 ·rw [Nat.min_eq_right (by omega),We (Qh _),We (by omega),List.take_nil]
end
def oY (N frn:List Str) (fr:List Nat):Bool:=frn.length==fr.length && (frn.zip fr).all fun y=>N[y.2]?==some y.1
theorem aR {X:Cx} {scope:Scope} {own frn:List Str} {fr:List Nat} (sc:Scope) (N:List Str) (h1:X.env.scope=sc) (h2:X.N=N) (h:(nR sc scope own frn && oY N frn fr)=true):CompOk X scope own fr frn:=by
 rw [Jj] at h
 obtain ⟨ha,hb⟩:=h
 unfold oY at hb
 simp only [Jj,beq_iff_eq,Qu] at hb
 refine ⟨by rw [h1]; exact ha,fun k x hk=>?_,hb.1.symm⟩
 have hlt:k < fr.length:=by rw [<- hb.1]; exact (Qd.mp hk).1
 refine ⟨fr[k],Qc hlt,?_⟩
 have hm:(x,fr[k])∈frn.zip fr:=by
  refine Qe (i:=k) ?_
  rw [Xu]
  exact ⟨hk,Qc hlt⟩
 rw [h2]
 exact hb.2 _ hm
section
variable {J:It} {own:Nat} {fr:List Nat} {g:TG} {tt:TT} {te:TE} {σ:St} {H:Hp} {Q:Hp->List V->Prop}
theorem mO (n:Nat) (hn:n<=sizeLine) (SH:St->Prop) (Pv:Nat->List V->Hp->Prop) (hσ:SH (blk own fr σ)) (h0:Pv 0 [] H) (hlen:∀ i ys H,Pv i ys H->ys.length<=i)
  (hstop:∀ ys H,Pv n ys H->J.stop n H) (hgo:∀ i ys H,i < n->Pv i ys H->J.go i H)
  (hs:∀ i ys σ x H H',i < n->SH σ->Pv i ys H->J.yld i H x H'->ys.length < sizeLine->g x σ H' fun σ2 H2=>tt σ2 H2 fun b H3=>if b=true then te σ2 H3 fun y H4=>ys.length < sizeLine/\SH σ2/\Pv (i+1) (ys++[y]) H4 else SH σ2/\Pv (i+1) ys H3)
  (hd:∀ ys H,Pv n ys H->Q H ys) :
  ∃ W:Nat->Nat->List V->St->Hp->Prop,(∃ m,W 0 m [] (blk own fr σ) H)/\∀ i m ys σ' H,W i m ys σ' H ->
   (J.stop i H/\Q H ys) ∨
   (J.go i H/\∃ N:List V->St->Hp->Prop,(∀ ys' σ2 H2,N ys' σ2 H2->∃ m',m' < m/\W (i+1) m' ys' σ2 H2) /\
    ∀ x H',J.yld i H x H'->g x σ' H' fun σ2 H2=>tt σ2 H2 fun b H3=>if b=true then te σ2 H3 fun y H4=>ys.length < sizeLine/\N (ys++[y]) σ2 H4 else N ys σ2 H3):=by
 refine ⟨fun i m ys σ' H=>m=n - i/\i<=n/\SH σ'/\Pv i ys H,⟨n,by simp,Jf _,hσ,h0⟩,?_⟩
 rintro i m ys σ' H ⟨rfl,hi,sh,p⟩
 by_cases hlt:i < n
 ·refine .inr ⟨hgo i ys H hlt p,fun ys' σ2 H2=>SH σ2/\Pv (i+1) ys' H2,fun ys' σ2 H2 ⟨e,q⟩=>⟨n - (i+1),by omega,rfl,hlt,e,q⟩,fun x H' y=>?_⟩
  exact hs i ys σ' x H H' hlt sh p y (by have:=hlen i ys H p; omega)
 ·have e:i=n:=by omega
  subst e
  exact .inl ⟨hstop ys H p,hd ys H p⟩
theorem iB {K:PySem.W.Frag} {a:Addr} {xs:List V} (SH:St->Prop) (Pv:Nat->List V->Hp->Prop) (hn:xs.length<=sizeLine) (hσ:SH (blk own fr σ)) (h0:Pv 0 [] H) (hlen:∀ i ys H,Pv i ys H->ys.length<=i) (hl:∀ i ys H,Pv i ys H->SqT K H a xs)
  (hs:∀ i ys σ x H,xs[i]?=some x->SH σ->Pv i ys H->ys.length < sizeLine->g x σ H fun σ2 H2=>tt σ2 H2 fun b H3=>if b=true then te σ2 H3 fun y H4=>ys.length < sizeLine/\SH σ2/\Pv (i+1) (ys++[y]) H4 else SH σ2/\Pv (i+1) ys H3)
  (hd:∀ ys H,Pv xs.length ys H->Q H ys) :
  ∃ W:Nat->Nat->List V->St->Hp->Prop,(∃ m,W 0 m [] (blk own fr σ) H)/\∀ i m ys σ' H,W i m ys σ' H ->
   ((Itt K a).stop i H/\Q H ys) ∨
   ((Itt K a).go i H/\∃ N:List V->St->Hp->Prop,(∀ ys' σ2 H2,N ys' σ2 H2->∃ m',m' < m/\W (i+1) m' ys' σ2 H2) /\
    ∀ x H',(Itt K a).yld i H x H'->g x σ' H' fun σ2 H2=>tt σ2 H2 fun b H3=>if b=true then te σ2 H3 fun y H4=>ys.length < sizeLine/\N (ys++[y]) σ2 H4 else N ys σ2 H3):=by
 refine mO xs.length hn SH Pv hσ h0 hlen (fun ys H p=>⟨xs,hl _ _ _ p,Qh _⟩) (fun i ys H hi p=>⟨xs,xs[i],hl _ _ _ p,Qc hi⟩) (fun i ys σ x H H' hi sh p y hz=>?_) hd
 obtain ⟨e,y⟩:=y
 subst e
 exact hs i ys σ x _ (y xs (hl _ _ _ p)) sh p hz
theorem eU {K:PySem.W.Frag} {a:Addr} {xs:List V} (SH:St->Prop) (Pv:Nat->List V->Hp->Prop) (hn:xs.length<=sizeLine) (hσ:SH (blk own fr σ)) (h0:Pv 0 [] H) (hlen:∀ i ys H,Pv i ys H->ys.length<=i) (hl:∀ i ys H,Pv i ys H->SqL K H a xs)
  (hs:∀ i ys σ x H,xs[i]?=some x->SH σ->Pv i ys H->ys.length < sizeLine->g x σ H fun σ2 H2=>tt σ2 H2 fun b H3=>if b=true then te σ2 H3 fun y H4=>ys.length < sizeLine/\SH σ2/\Pv (i+1) (ys++[y]) H4 else SH σ2/\Pv (i+1) ys H3)
  (hd:∀ ys H,Pv xs.length ys H->Q H ys) :
  ∃ W:Nat->Nat->List V->St->Hp->Prop,(∃ m,W 0 m [] (blk own fr σ) H)/\∀ i m ys σ' H,W i m ys σ' H ->
   ((Itl K a).stop i H/\Q H ys) ∨
   ((Itl K a).go i H/\∃ N:List V->St->Hp->Prop,(∀ ys' σ2 H2,N ys' σ2 H2->∃ m',m' < m/\W (i+1) m' ys' σ2 H2) /\
    ∀ x H',(Itl K a).yld i H x H'->g x σ' H' fun σ2 H2=>tt σ2 H2 fun b H3=>if b=true then te σ2 H3 fun y H4=>ys.length < sizeLine/\N (ys++[y]) σ2 H4 else N ys σ2 H3):=by
 refine mO xs.length hn SH Pv hσ h0 hlen (fun ys H p=>⟨xs,hl _ _ _ p,Qh _⟩) (fun i ys H hi p=>⟨xs,xs[i],hl _ _ _ p,Qc hi⟩) (fun i ys σ x H H' hi sh p y hz=>?_) hd
 obtain ⟨e,y⟩:=y
 subst e
 exact hs i ys σ x _ (y xs (hl _ _ _ p)) sh p hz
theorem iV {lo:Int} {n:Nat} (SH:St->Prop) (Pv:Nat->List V->Hp->Prop) (hn:n<=sizeLine) (hσ:SH (blk own fr σ)) (h0:Pv 0 [] H) (hlen:∀ i ys H,Pv i ys H->ys.length<=i)
  (hs:∀ i ys σ H,i < n->SH σ->Pv i ys H->ys.length < sizeLine->g (.int (lo+i)) σ H fun σ2 H2=>tt σ2 H2 fun b H3=>if b=true then te σ2 H3 fun y H4=>ys.length < sizeLine/\SH σ2/\Pv (i+1) (ys++[y]) H4 else SH σ2/\Pv (i+1) ys H3)
  (hd:∀ ys H,Pv n ys H->Q H ys) :
  ∃ W:Nat->Nat->List V->St->Hp->Prop,(∃ m,W 0 m [] (blk own fr σ) H)/\∀ i m ys σ' H,W i m ys σ' H ->
   ((Itr lo n).stop i H/\Q H ys) ∨
   ((Itr lo n).go i H/\∃ N:List V->St->Hp->Prop,(∀ ys' σ2 H2,N ys' σ2 H2->∃ m',m' < m/\W (i+1) m' ys' σ2 H2) /\
    ∀ x H',(Itr lo n).yld i H x H'->g x σ' H' fun σ2 H2=>tt σ2 H2 fun b H3=>if b=true then te σ2 H3 fun y H4=>ys.length < sizeLine/\N (ys++[y]) σ2 H4 else N ys σ2 H3):=by
 refine mO n hn SH Pv hσ h0 hlen (fun ys H p=>Qh _) (fun i ys H hi p=>hi) (fun i ys σ x H H' hi sh p y hz=>?_) hd
 obtain ⟨e,y⟩:=y
 subst e y
 exact hs i ys σ _ hi sh p hz
end
section
variable {X:Cx}
def aEU (i j:Int):Prop:=0 < j/\j < 1267650600228229401496703205376
theorem aBg:OpR X (binaryOp .FloorDiv) (rI aEU fun i j=>.int (i / j)):=opI fun i j _ _ _ _ _ hc q=>by
 have h1:(0:Int) < j:=hc.1
 have h2:j < 1267650600228229401496703205376:=hc.2
 refine floordiv_int (by omega) (by rw [Zl i (by omega)]; exact q) (.inl (PyProof.noPylong_of_log2 ?_))
 have h3:j.natAbs.log2 < 100:=(Wz (by omega)).mpr (by omega)
 omega
theorem yV:∀ {xs:List V} {us:List Value},xs.length=us.length->(∀ (j:Nat) (x:V) (u:Value),xs[j]?=some x->us[j]?=some u->bI x u)->bF xs us
 | [],[],_,_=>.nil
 | [],_::_,h,_=>by cases h
 | _::_,[],h,_=>by cases h
 | x::xs,u::us,h,k=>.cons (k 0 x u rfl rfl) (yV (by simpa using h) fun j y v hy hv=>k (j+1) y v hy hv)
theorem mB (hc:X.calm=true):eY X (.type "list") (fun xs H Q=>∃ (a:Addr) (n:Nat),xs = [.ref a]/\H a=some (.rng 0 n)/\n<=1000/\∀ p,H p=none->Q (.ref p) (upd H p (.lst ((aQ n).map V.int)))):=by
 intro pins s σ H xs us Q I r h
 obtain ⟨a,n,rfl,ha,hn,q⟩:=h
 obtain ⟨u,rfl,rx⟩:=jR r
 cases rx
 obtain ⟨t,u,v,e⟩:=I.hok a _ ha
 have hsz:Builtin.Range.rangeSize 0 (n:Int) 1=(n:Int):=by rw [rangeSize_one]; split <;> omega
 have hsm:Builtin.Range.small 0 (n:Int) 1=true:=small_one (by omega) (by omega) (by omega) (by omega)
 refine call_list_range (I.ok.hd hc) e hsm hsz (Qt hn (by decide)) fun h' tk acc' c' kp hl hi=>?_
 have hv:bF ((aQ n).map V.int) acc'.toList:=by
  obtain ⟨h1,h2⟩:=hi
  refine yV (by unfold aQ; simp [h1]) fun j x u hx hu=>?_
  have hj:j < n:=by
   have:=(Qd.mp hu).1
   rw [Array.length_toList,h1] at this
   exact this
  obtain ⟨t,rfl⟩:=h2 j u (by rw [<- Array.getElem?_toList]; exact hu)
  unfold aQ at hx
  rw [Qg,Qg,Zo hj] at hx
  have e:V.int (j:Int)=x:=Option.some.inj hx
  rw [<- e]
  exact ⟨t,by rw [Ys,Int.mul_one]⟩
 have hlen:((aQ n).map V.int).length<=sizeLine:=by unfold aQ; rw [Qa,Qa,Zx,sizeLine_eq]; omega
 exact ⟨.ref s.heap.objs.size,_,I.laid (t':=tk) kp (Qh _) (show cJ X.prog X.w _ h' _ (.lst _) from ⟨hlen,acc'.toList,c',hv,hl⟩),rfl,q _ (I.hok.fresh (Qh _))⟩
theorem nU {prog:Program} {w:World} {A:Around} {E:Value->Shared->Prop} {s:Shared} {sl:Addr} {tk:Tok} {n:Nat} {Q:Int×Int×Nat->Shared->Prop} (hs:s.heap.IsSliceOf sl .none .none (.int (-1) tk))
  (h:Q ((n:Int) - 1,-1,n) s):wpAny (model prog w) A (Builtin.Slice.sliceApplied (.ref sl) (pure (n:Int))) Q E s:=by
 obtain ⟨os,hos,hcs,hds⟩:=id hs
 unfold Builtin.Slice.sliceApplied Builtin.Slice.sliceFields
 refine wpAny_bind (wpAny_bind (wpAny_field hos hds (x:=.none) rfl (wpAny_bind (wpAny_field hos hds (x:=.none) rfl (wpAny_bind (wpAny_field hos hds (x:=.int (-1) tk) rfl (wpAny_pure ?_)))))))
 refine wpAny_bind (HT.slicePart_ (.int (-1) tk) ?_)
 show wpAny _ _ (if ((-1:Int)==0)=true then _ else _) _ _ s
 rw [if_neg (by decide)]
 refine wpAny_bind (HT.slicePart_ .none (wpAny_bind (HT.slicePart_ .none (wpAny_bind (wpAny_pure ?_)))))
 show wpAny _ _ (match Builtin.Slice.sliceAdjust none none (-1) (n:Int) with | (lo,hi)=>pure (lo,(-1:Int),Builtin.Slice.slicePlaces lo hi (-1))) _ _ s
 have e:Builtin.Slice.sliceAdjust none none (-1) (n:Int)=((n:Int) - 1,-1):=by simp [Builtin.Slice.sliceAdjust]
 rw [e]
 have e2:Builtin.Slice.slicePlaces ((n:Int) - 1) (-1) (-1)=n:=by
  unfold Builtin.Slice.slicePlaces
  rw [if_neg (by decide)]
  by_cases h0:n=0
  ·subst h0; decide
  ·rw [if_pos (by omega)]
   have:((n:Int) - 1 - -1 - 1) / (- -1)+1=n:=by rw [show (- -1:Int)=1 from rfl,Int.ediv_one]; omega
   rw [this]; simp
 show wpAny _ _ (pure ((n:Int) - 1,(-1:Int),Builtin.Slice.slicePlaces ((n:Int) - 1) (-1) (-1))) _ _ s
 rw [e2]
 exact wpAny_pure h
theorem vP {α β:Type} {f g:α->Option β}:∀ {l:List α},(∀ x∈l,f x=g x)->l.filterMap f=l.filterMap g
 | [],_=>rfl
 | x::r,h=>by rw [Xz,Xz,h x (Qk ..),vP fun y hy=>h y (Qq _ hy)]
theorem vQ (xs:Array Value):((List.range xs.size).filterMap fun (k:Nat)=>xs[((xs.size:Int) - 1+(k:Int)*(-1)).toNat]?).toArray=xs.toList.reverse.toArray:=by
 have h:=HT.pick_gen xs.toList.reverse.toArray 0 xs.size
 have e:(List.range xs.size).filterMap (fun (k:Nat)=>xs[((xs.size:Int) - 1+(k:Int)*(-1)).toNat]?)=(List.range xs.size).filterMap (fun (m:Nat)=>xs.toList.reverse.toArray[(((0:Nat):Int)+(m:Int)*1).toNat]?):=by
  refine vP fun k hk=>?_
  have hk':=Jy.mp hk
  have h1:((xs.size:Int) - 1+(k:Int)*(-1)).toNat=xs.size - 1 - k:=by omega
  have h2:(((0:Nat):Int)+(k:Int)*1).toNat=k:=by omega
  rw [h1,h2]
  simp only [List.getElem?_toArray]
  rw [List.getElem?_reverse (by simpa using hk')]
  simp
 rw [e,h]
 congr 1
 rw [List.drop_zero,Xe (by simp)]
theorem mP {prog:Program} {w:World} {A:Around} {E:Value->Shared->Prop} {s:Shared} {t sl:Addr} {items:Array Value} {tk:Tok} {Q:Value->Shared->Prop} (ht:IsTup s.heap t items) (hs:s.heap.IsSliceOf sl .none .none (.int (-1) tk))
  (h:Q (.ref s.heap.objs.size) { s with heap:=s.heap.push { cls:=.type "tuple",data:=.seq items.toList.reverse.toArray } }) (hsz:items.size<=sizeLine):wpAny (model prog w) A (getItem (.ref t) (.ref sl)) Q E s:=by
 have htake:sizeOk (.seq items.toList.reverse.toArray):=by
  show items.toList.reverse.toArray.size<=sizeLine
  rw [Qj,Xp,Array.length_toList]
  exact hsz
 obtain ⟨os,hos,hcs,hds⟩:=id hs
 have hTs:s.TypeIs (.ref sl) "slice" := ⟨os,hos,hcs⟩
 unfold getItem
 try with_reducible refine wpAny_holding ?_
 first | refine wpAny_bind (wpAny_pure ?_) | skip
 refine wpAny_bind (wpAny_sequenceKey ht.typeIs (by decide) ?_)
 refine wpAny_bind (wpAny_callSpecial?_slot (name:=Str.ofString "__getitem__") ht.typeIs PyProof.Rows.slot_tuple_getitem
  (wpAny_call_entry PyProof.Rows.slot_tuple_getitem ht.typeIs entry_tuple_getitem ?_ (args_tuple_getitem _ _)))
 refine wpAny_bind (m:=Builtin.Tuple.tupleItemsOf (.ref t)) (tupleItemsOf_ ht ?_)
 refine wpAny_bind (wpAny_typeOf hTs ?_)
 rw [if_pos (by decide)]
 refine wpAny_bind (nU hs ?_)
 have hno:¬ ((((items.size:Int) - 1)==0 && (-1:Int)==1 && items.size==items.size)=true):=by simp
 show wpAny _ _ (if (((items.size:Int) - 1)==0 && (-1:Int)==1 && items.size==items.size)=true then _ else _) _ _ s
 rw [if_neg hno,vQ]
 first
  | exact wpAny_bind (m:=Builtin.Tuple.tupleExact _) (wpAny_newObj_type (wpAny_pure ⟨_,rfl,wpAny_pure h⟩) htake)
  | exact wpAny_bind (m:=Builtin.Tuple.tupleExact _) (wpAny_newObj_type (wpAny_bind (wpAny_pure (wpAny_pure ⟨_,rfl,wpAny_pure h⟩))) htake)
  | exact wpAny_bind (wpAny_bind (m:=Builtin.Tuple.tupleExact _) (wpAny_newObj_type (wpAny_pure (wpAny_pure ⟨_,rfl,wpAny_pure h⟩)) htake))
  | exact wpAny_bind (wpAny_bind (m:=Builtin.Tuple.tupleExact _) (wpAny_newObj_type (wpAny_pure ⟨_,rfl,wpAny_pure h⟩) htake))
def aFC (K:PySem.W.Frag) (te ts:TE):TE:=fun σ H Q=>te σ H fun x H1=>ts σ H1 fun y H2=>y=.int (-1)/\∃ a xs,x=.ref a/\SqT K H2 a xs/\∀ p,H2 p=none->Q (.ref p) (upd H2 p (.tup xs.reverse))
theorem aBh {e st:Expr} {te ts:TE} {pos p2:Pos} (he:PE X e te) (hst:PE X st ts):PE X (.Subscript e (.Slice none none (some st) p2) pos) (aFC X.K te ts):=by
 intro pins s σ H Q I h
 refine Subscript_ (thn (he pins s σ H _ I h) fun v s1 hx9=>?_)
 obtain ⟨x,H1,I1,r1,q1⟩:=hx9
 refine wpAny_Slice ?_
 rw [evalPart_none]
 refine wpAny_pure ?_
 show wpAny _ _ (evalPart none X.env) _ _ s1
 rw [evalPart_none]
 refine wpAny_pure ?_
 show wpAny _ _ (evalPart (some st) X.env) _ _ s1
 rw [evalPart_some]
 refine thn (hst pins s1 σ H1 _ I1 q1) fun vst s3 hx9=>?_
 obtain ⟨y,H3,I3,r3,q3⟩:=hx9
 obtain ⟨rfl,a,xs,rfl,hx,q⟩:=q3
 obtain ⟨tk,rfl⟩:=r3
 cases r1
 have I4:Inv X pins σ H3 { s3 with heap:=s3.heap.push { cls:=.type "slice",data:=.fields #[.none,.none,.int (-1) tk] } }:=I3.kept (t':=s3.toks) fun b ob q=>Qb _ q
 obtain ⟨its,r,ht,hz⟩:=I4.tuple hx
 have hlen:=r.length
 have hg:wpAny (model X.prog X.w) X.A (getItem (.ref a) (.ref s3.heap.objs.size)) (EP X pins σ Q) X.xe { s3 with heap:=s3.heap.push { cls:=.type "slice",data:=.fields #[.none,.none,.int (-1) tk] } }:=by
  refine mP ht (Heap.IsSliceOf.new ..) ?_ (by rw [Qj]; omega)
  refine ⟨.ref _,_,I4.laid (t':=s3.toks) (o:=.tup xs.reverse) (fun b ob q=>Qb _ q) (Qh _) ?_,rfl,q _ (I4.hok.fresh (Qh _))⟩
  exact ⟨by rw [Xp]; exact hz,its.reverse,0,r.reverse,Qn _ rfl⟩
 show wpAny (model X.prog X.w) X.A (subscriptTail e (.Slice none none (some st) p2) (.ref a) (.ref s3.heap.objs.size)) (EP X pins σ Q) X.xe { s3 with heap:=s3.heap.push { cls:=.type "slice",data:=.fields #[.none,.none,.int (-1) tk] } }
 exact tail_any (ops:=[.ref a,.ref s3.heap.objs.size]) ht.typeIs PyProof.Rows.slot_tuple_getitem.lookup hg (by with_unfolding_all rfl)
end
def Vw (S:List Addr) (H:Hp):Hp:=fun b=>if b∈S then none else H b
theorem Vw.out {S:List Addr} {H:Hp} {b:Addr} (n:b∉S):Vw S H b=H b:=by unfold Vw; rw [if_neg n]
theorem Vw.sub {S:List Addr} {H:Hp}:aC (Vw S H) H:=fun b o h=>by
 by_cases z:b∈S
 ·unfold Vw at h; rw [if_pos z] at h; cases h
 ·rw [Vw.out z] at h; exact h
theorem Vw.keep {S:List Addr} {H H':Hp} (e:∀ b o,b∉S->H b=some o->H' b=some o):aC (Vw S H) (Vw S H'):=fun b o h=>by
 by_cases z:b∈S
 ·unfold Vw at h; rw [if_pos z] at h; cases h
 ·rw [Vw.out z] at h ⊢; exact e b o z h
theorem Vw.same {S:List Addr} {H H':Hp} (e:aC H H'):aC (Vw S H) (Vw S H'):=Vw.keep fun b o _ h=>e b o h
def Fx (S:List Addr) (H:Hp):Prop:=∀ b∈S,∃ xs,H b=some (.lst xs)
theorem Fx.same {S:List Addr} {H H':Hp} (f:Fx S H) (e:aC H H'):Fx S H':=fun b hb=>let ⟨xs,h⟩:=f b hb; ⟨xs,e b _ h⟩
theorem Fx.new {S:List Addr} {H:Hp} {p:Addr} (f:Fx S H) (h:H p=none):p∉S:=fun z=>by
 obtain ⟨xs,q⟩:=f p z
 rw [q] at h; cases h
theorem Fx.nil {H:Hp}:Fx [] H:=fun _ h=>(Ja h).elim
section
variable {K:PySem.W.Frag} {S:List Addr} {H H' H0:Hp}
theorem Fx.seqT {a:Addr} {xs:List V} (f:Fx S H) (h:SqT K H a xs):SqT K (Vw S H) a xs:=by
 rcases h with (h | ⟨o,h⟩) | h
 ·exact .inl (.inl (by rw [Vw.out fun z=>by obtain ⟨ys,q⟩:=f a z; rw [q] at h; cases h]; exact h))
 ·exact .inl (.inr ⟨o,by rw [Vw.out fun z=>by obtain ⟨ys,q⟩:=f a z; rw [q] at h; cases h]; exact h⟩)
 ·exact .inr h
theorem Vw.at {p:Addr} {o:HO} (f:Fx S H) (h:H p=none):Vw S (upd H p o) p=some o:=by rw [Vw.out (f.new h)]; exact aB
def Dn (K:PySem.W.Frag) (S:List Addr) (H:Hp) (x:V):Prop:=∃ d,Den K (Vw S H) d x
def DT (K:PySem.W.Frag) (S:List Addr) (n:Nat) (H:Hp) (x:V):Prop:=∃ a xs,x=.ref a/\SqT K (Vw S H) a xs/\xs.length<=n/\∀ y∈xs,Dn K S H y
def II (_:Hp) (x:V):Prop:=∃ i,x=.int i
class Mo (R:Hp->V->Prop):Prop where
 mo:∀ {H H':Hp} {v:V},aC H H'->R H v->R H' v
theorem Dn.keep {x:V} (h:Dn K S H x) (e:aC (Vw S H) (Vw S H')):Dn K S H' x:=let ⟨d,h⟩:=h; ⟨d,e.den _ _ h⟩
theorem Dn.same {x:V} (h:Dn K S H x) (e:aC H H'):Dn K S H' x:=h.keep (Vw.same e)
theorem DT.keep {n:Nat} {x:V} (h:DT K S n H x) (e:aC (Vw S H) (Vw S H')):DT K S n H' x:=let ⟨a,xs,h1,h2,h3,h4⟩:=h; ⟨a,xs,h1,e.seqT h2,h3,fun y hy=>(h4 y hy).keep e⟩
theorem DT.same {n:Nat} {x:V} (h:DT K S n H x) (e:aC H H'):DT K S n H' x:=h.keep (Vw.same e)
instance:Mo (Dn K S):=⟨fun e h=>Dn.same h e⟩
instance {n:Nat}:Mo (DT K S n):=⟨fun e h=>DT.same h e⟩
instance:Mo II:=⟨fun _ h=>h⟩
theorem aBi (i:Int):Dn K S H (.int i):=⟨.int i,dM.mpr rfl⟩
theorem II.dn {x:V} (h:II H x):Dn K S H x:=let ⟨i,h⟩:=h; h ▸ aBi i
theorem aBj:∀ {xs:List V},(∀ x∈xs,Dn K S H x)->∃ ds,aO K (Vw S H) ds xs
 | [],_=>⟨[],aL.mpr rfl⟩
 | x::r,h=>by
  obtain ⟨d,hd⟩:=h x (Qk ..)
  obtain ⟨ds,hds⟩:=aBj (xs:=r) fun y hy=>h y (Qq _ hy)
  exact ⟨d::ds,aJ.mpr ⟨x,r,rfl,hd,hds⟩⟩
theorem DT.dn {n:Nat} {x:V} (h:DT K S n H x):Dn K S H x:=by
 obtain ⟨a,xs,rfl,h2,_,h4⟩:=h
 obtain ⟨ds,hds⟩:=aBj h4
 exact ⟨.tuple ds,bV.mpr ⟨a,xs,rfl,h2,hds⟩⟩
theorem aCB {l:List Int}:∀ x∈l.map V.int,Dn K S H x:=fun x hx=>by
 obtain ⟨i,_,rfl⟩:=Qx.mp hx
 exact aBi i
theorem DT.ints {a:Addr} {l:List Int} {n:Nat} (f:Fx S H) (h:SqT K H a (l.map V.int)) (hn:l.length<=n):DT K S n H (.ref a):=⟨a,_,rfl,f.seqT h,by rw [Qa]; exact hn,aCB⟩
def Al (H0:Hp) (S:List Addr) (te:TE) (σ:St) (R:Hp->V->Prop):Prop:=∀ H,aC H0 H->Fx S H->∀ Q:VK,(∀ v H',aC H H'->R H' v->Q v H')->te σ H Q
variable {σ:St} {R R':Hp->V->Prop} {te ta tb ts:TE} {t tr:TA} {tl th:TO}
theorem Al.mono (h:Al H0 S te σ R) (m:∀ H v,R H v->R' H v):Al H0 S te σ R':=fun H s f Q k=>h H s f Q fun v H' s' r=>k v H' s' (m H' v r)
theorem Al.i (h:Al H0 S te σ II):Al H0 S te σ (Dn K S):=h.mono fun _ _ r=>r.dn
theorem Al.d {n:Nat} (h:Al H0 S te σ (DT K S n)):Al H0 S te σ (Dn K S):=h.mono fun _ _ r=>r.dn
def aEV (K:PySem.W.Frag):R2:=fun x y H Q=>∃ a b xs ys,x=.ref a/\y=.ref b/\SqT K H a xs/\SqT K H b ys/\xs.length+ys.length<=sizeLine/\∀ p H',aC H H'->SqT K H' p (xs++ys)->Q (.ref p) H'
theorem vR {X:Cx} (hK:X.K=K):OpR X (binaryOp .Add) (aEV K):=by subst hK; exact aCA
instance {a:Addr} {xs:List V}:Mo (fun H v=>v=.ref a/\SqT K H a xs):=⟨fun e h=>⟨h.1,e.seqT h.2⟩⟩
instance {x:V}:Mo (fun _ v=>v=x):=⟨fun _ h=>h⟩
end
open PySem.AutoSeq1 (wpAny_loadPart')
theorem nf {b:Bool} (h:b=false):decide (b=true)=false:=by rw [h]; rfl
theorem nt {b:Bool} (h:b=true):decide (b=true)=true:=by rw [h]; rfl
theorem pS (l:Addr) (items:Array Value) (n:Nat) (dd:Option Addr) (sl:Array (Option Value)) (x:Int) (u:Tok) (h1:1 < x) (h2:x<=1000) (hne:items.isEmpty=false) (hz:items.size<=1000) :
  Meets (Builtin.«tuple.__mul__» ⟨[.ref l,.int x u],[]⟩) (fun _ R s=>s.heap.get? l=some { cls:=.type "tuple",dict:=dd,data:=.seq items n,slots:=sl }/\R (.ok (.ret (Value.ref s.heap.objs.size))) { s with heap:=s.heap.push { cls:=Value.type "tuple",data:=Data.seq (List.foldl (fun x1 x2=>x1++x2) #[] (List.replicate x.toNat items)) },toks:=s.toks }) :=
 .of_wp fun prog w A R s h=>by
  obtain ⟨hp,g,d,tk,os⟩:=s
  obtain ⟨hl,h⟩:=h
  have f1:=AutoSeq1.idx_int
  have f2:=AutoSeq1.sub_tuple_tuple
  wp_walk using wpAny_loadPart' hl
  refine wpAny_ite_false (nf (show (decide (x < -2^63) || decide (x≥2^63))=false from by rw [decide_eq_false (show ¬ x < -2^63 by omega),decide_eq_false (show ¬ x≥2^63 by omega)]; rfl)) ?_
  wp_walk using wpAny_loadPart' hl
  refine wpAny_ite_false (nf (show (items.isEmpty || x==1)=false from by rw [hne,beq_eq_false_iff_ne.mpr (show x≠1 by omega)]; rfl)) ?_
  wp_walk using wpAny_loadPart' hl
  refine wpAny_ite_false (nf (show (decide (x<=0) || items.isEmpty)=false from by rw [hne,decide_eq_false (show ¬ x<=0 by omega)]; rfl)) ?_
  wp_walk using wpAny_loadPart' hl
  have hm:(items.size:Int)*x<=1000*1000:=Int.mul_le_mul (by omega) h2 (by omega) (by omega)
  refine wpAny_ite_false (decide_eq_false (show ¬ (items.size:Int)*x > (2^63 - 1) / 8 by omega)) ?_
  wp_walk using wpAny_loadPart' hl
  refine wpAny_ite_false (nf (show decide ((items.size:Int)*x > (sizeLine:Int))=false from decide_eq_false (by rw [sizeLine_eq]; omega))) ?_
  have hsz:¬ (List.foldl (fun x1 x2=>x1++x2) #[] (List.replicate x.toNat items)).size > sizeLine:=by
   have e:=nQ items.toList x.toNat []
   rw [Zv] at e
   have e2:List.foldl (fun x1 x2=>x1++x2) #[] (List.replicate x.toNat items)=(List.replicate x.toNat items.toList).flatten.toArray:=e
   rw [e2,Qj,yS,Array.length_toList,sizeLine_eq]
   have:x.toNat*items.size<=1000*1000:=Nat.mul_le_mul (by omega) hz
   omega
  wp_walk using wpAny_loadPart' hl
  exact ⟨_,rfl,h⟩
theorem pT (l:Addr) (items:Array Value) (n:Nat) (dd:Option Addr) (sl:Array (Option Value)) (x:Int) (u:Tok) (h1:1 < x) (h2:x<=1000) (hne:items.isEmpty=true) :
  Meets (Builtin.«tuple.__mul__» ⟨[.ref l,.int x u],[]⟩) (fun _ R s=>s.heap.get? l=some { cls:=.type "tuple",dict:=dd,data:=.seq items n,slots:=sl }/\R (.ok (.ret (Value.ref l))) s) :=
 .of_wp fun prog w A R s h=>by
  obtain ⟨hp,g,d,tk,os⟩:=s
  obtain ⟨hl,h⟩:=h
  have f1:=AutoSeq1.idx_int
  have f2:=AutoSeq1.sub_tuple_tuple
  wp_walk using wpAny_loadPart' hl
  refine wpAny_ite_false (nf (show (decide (x < -2^63) || decide (x≥2^63))=false from by rw [decide_eq_false (show ¬ x < -2^63 by omega),decide_eq_false (show ¬ x≥2^63 by omega)]; rfl)) ?_
  wp_walk using wpAny_loadPart' hl
  exact ⟨_,rfl,h⟩
theorem jT:fillsNumberSlot (.type "tuple") "mul" = pure false :=
 PySem.fillsNumberSlot_seq (id := "tuple.__mul__") (r:=some (.builtin "tuple.__rmul__")) PySem.F.slot_tuple_mul.lookup (by decide +kernel) PySem.F.slot_tuple_rmul.lookup (by decide +kernel)
theorem mQ:seqRepeat? (.type "tuple")=pure (some (.builtin "tuple.__mul__")):=by
 unfold seqRepeat?
 rw [PySem.seqSlot_of (T := "tuple") (name := "__mul__") (id := "tuple.__mul__") PySem.F.slot_tuple_mul.lookup (by decide +kernel),PySem.seqSlot_of (T := "tuple") (name := "__rmul__") (id := "tuple.__rmul__") PySem.F.slot_tuple_rmul.lookup (by decide +kernel)]
 rfl
theorem kY (a:Int) (t:Tok) (l:Addr) (items:Array Value) (n:Nat) (dd:Option Addr) (sl:Array (Option Value)) :
  Meets (Builtin.«int.__rmul__» ⟨[.int a t,.ref l],[]⟩) (fun _ R s=>s.heap.get? l=some { cls:=.type "tuple",dict:=dd,data:=.seq items n,slots:=sl }/\R (.ok (.ret Value.notImplemented)) s) :=
 .of_wp fun prog w A R s h=>by
  obtain ⟨hp,g,d,tk,os⟩:=s
  obtain ⟨hl,h⟩:=h
  wp_walk using wpAny_loadPart' hl
  exact ⟨_,rfl,h⟩
def aEW (K:PySem.W.Frag):R2:=fun x y H Q=>∃ a k xs,x=.ref a/\y=.int k/\SqT K H a xs/\1 < k/\k<=1000/\xs.length<=1000/\∀ p H',aC H H'->SqT K H' p (List.replicate k.toNat xs).flatten->Q (.ref p) H'
theorem aCC {X:Cx} {K:PySem.W.Frag} (hK:X.K=K):OpR X (binaryOp .Mult) (aEW K):=by
 subst hK
 intro pins s σ H x y v u Q I rx ry h
 obtain ⟨a,k,xs,rfl,rfl,ha,h1,h2,hz,q⟩:=h
 cases rx
 obtain ⟨t,rfl⟩:=ry
 obtain ⟨its,r,⟨⟨cls,dd,data,sl⟩,ho,hc,n,hd⟩,hzz⟩:=I.tuple ha
 simp only at hc hd
 subst hc hd
 have hl:=r.length
 refine wpAny_binaryOp_repeat_ref (T := "tuple") (U := "int") (by decide) ⟨_,ho,rfl⟩ (fun s'=>typeIs_int s' k t) jT PySem.F.fills_int_mul PySem.F.slot_int_rmul mQ PySem.F.slot_int_index.lookup
  (call_meets PySem.F.slot_int_rmul (typeIs_int s k t) PySem.F.entry_int_rmul (PySem.F.args_int_rmul_2 _ _) (kY k t a its.toArray n dd sl) ⟨ho,rfl,⟨_,ho,rfl⟩,?_⟩)
 by_cases hx:xs = []
 ·subst hx
  cases r
  refine call_meets PySem.F.slot_tuple_mul ⟨_,ho,rfl⟩ PySem.F.entry_tuple_mul (PySem.F.args_tuple_mul_2 _ _) (pT a _ n dd sl k t h1 h2 rfl) ⟨ho,?_⟩
  exact ⟨.ref a,H,I,rfl,q a H (aC.refl H) (by rw [List.flatten_replicate_nil]; exact ha)⟩
 ·have hne:its.toArray.isEmpty=false:=by
   cases its with
   | nil=>cases r; exact absurd rfl hx
   | cons _ _=>rfl
  refine call_meets PySem.F.slot_tuple_mul ⟨_,ho,rfl⟩ PySem.F.entry_tuple_mul (PySem.F.args_tuple_mul_2 _ _) (pS a its.toArray n dd sl k t h1 h2 hne (by rw [Qj]; omega)) ⟨ho,?_⟩
  have hnew:List.foldl (fun x1 x2=>x1++x2) #[] (List.replicate k.toNat its.toArray)=(List.replicate k.toNat its).flatten.toArray:=by
   have:=nQ its k.toNat []
   rw [Zv] at this
   exact this
  rw [hnew]
  have hlen:(List.replicate k.toNat xs).flatten.length<=sizeLine:=by
   rw [yS,sizeLine_eq]
   have:k.toNat*xs.length<=1000*1000:=Nat.mul_le_mul (by omega) hz
   omega
  refine ⟨.ref _,_,I.laid (t':=s.toks) (o:=.tup (List.replicate k.toNat xs).flatten) (fun b ob q=>Qb _ q) (Qh _) ?_,rfl,q _ _ (aC.new (I.hok.fresh (Qh _))) (SqT.of aB)⟩
  exact ⟨hlen,(List.replicate k.toNat its).flatten,0,r.rep k.toNat,Qn _ rfl⟩
section
variable {X:Cx} {pins:List (Addr×Obj)} {σ:St} {H:Hp} {s:Shared}
end
section
variable {K:PySem.W.Frag} {S:List Addr} {H H' H0:Hp} {E E':Hp->V->Prop}
def DTe (K:PySem.W.Frag) (S:List Addr) (E:Hp->V->Prop) (n:Nat) (H:Hp) (x:V):Prop:=∃ a xs,x=.ref a/\SqT K (Vw S H) a xs/\xs.length<=n/\∀ y∈xs,E H y
def LTe (S:List Addr) (E:Hp->V->Prop) (n:Nat) (H:Hp) (x:V):Prop:=∃ a xs,x=.ref a/\Vw S H a=some (.lst xs)/\xs.length<=n/\∀ y∈xs,E H y
instance {n:Nat} [m:Mo E]:Mo (DTe K S E n):=⟨fun e ⟨a,xs,h1,h2,h3,h4⟩=>⟨a,xs,h1,(Vw.same e).seqT h2,h3,fun y hy=>m.mo e (h4 y hy)⟩⟩
instance {n:Nat} [m:Mo E]:Mo (LTe S E n):=⟨fun e ⟨a,xs,h1,h2,h3,h4⟩=>⟨a,xs,h1,Vw.same e _ _ h2,h3,fun y hy=>m.mo e (h4 y hy)⟩⟩
variable {σ:St} {te ta tb ts:TE} {t tr:TA} {tl th:TO}
end
section
variable {env:Env} {iK es:List Expr} {k:Nat} {pos:Pos} {a b c:Expr}
end
def aBk (X:Cx) (scope:Scope) (z0:Str) (C:Addr):Env:={ compEnvC scope (cN X.env scope.names []) C X.env with cells:=(z0,C+1)::cN X.env scope.names [] }
def bW (X:Cx) (scope:Scope) (z0:Str) (N:List Str) (C:Addr) (s0:Shared) (H0:Hp) (fp:List Addr):Cx where
 prog:=X.prog
 w:=X.w
 K:=X.K
 mg:=X.mg
 base:=X.base
 A:=X.A
 N:=N
 s₀:=s0
 H₀:=H0
 env:=aBk X scope z0 C
 outer:=X.stack
 stack:=X.stack
 ex:=fp
 fn:=fun y=>y==z0
 calm:=X.calm
 pn:=[]
 xe:=fun _ _=>False
def mF (sc scope:Scope) (z0:Str) (own:List Str) (frn:List Str):Bool :=
 scope.kind==.function && scope.names.all (fun y=>y.2 !=.cell || y.1==z0) && scope.names.all (fun y=>y.2 !=.local || scope.names.lookup y.1==some .local) &&
 scope.names.all (fun y=>y.2 !=.free || sc.names.lookup y.1==some .cell || sc.names.lookup y.1==some .free) && decide (own++frn).Nodup &&
 frn.all (fun x=>scope.names.lookup x==some .free) && scope.names.lookup z0==some .cell && scope.names.all (fun y=>y.2 !=.free || y.1 !=z0)
structure CompOk1 (X:Cx) (scope:Scope) (z0:Str) (own:List Str) (fr:List Nat) (frn:List Str):Prop where
 ck:mF X.env.scope scope z0 own frn=true
 ix:∀ (k:Nat) (x:Str),frn[k]?=some x->∃ j:Nat,fr[k]?=some j/\X.N[j]?=some x
 len:fr.length=frn.length
 cf:∀ (n:Nat) (cl:List (Str×Addr)),cellsFrom n scope.names cl=(z0,n)::cl
 pc:∀ h:Heap,pushCells h scope.names=h.push { cls:=.type "cell",data:=.cell none }
theorem aCD {M:Model} {A:Around} {E:Value->Shared->Prop} {s:Shared} {scope:Scope} {globals:Addr} {cl:List (Str×Addr)} {qual z0:Str} {env:Env} {Q:Env->Shared->Prop}
  (cf:∀ (n:Nat) (cl:List (Str×Addr)),cellsFrom n scope.names cl=(z0,n)::cl) (pc:∀ h:Heap,pushCells h scope.names=h.push { cls:=.type "cell",data:=.cell none })
  (h:Q (newEnv scope s.heap.objs.size globals ((z0,s.heap.objs.size+1)::cl) qual none .none (some env) builtinsNs) { s with heap:=(s.heap.push { cls:=.type "dict",data:=.dict #[] }).push { cls:=.type "cell",data:=.cell none } }) :
  wpAny M A (newFunctionEnv scope globals cl [] qual none .none (some env)) Q E s:=by
 simp only [newFunctionEnv,Ww,if_true]
 refine wpAny_bind (wpAny_alloc ?_)
 refine wpAny_bind (wpAny_layCells _ (fun name kind cells=>by cases hkc:kind==NameKind.cell <;> simp [hkc]) _ _ _ _ ?_)
 rw [cf,pc,show ({ s with heap:=s.heap.push { cls:=.type "dict",data:=.dict #[] } }:Shared).heap.objs.size=s.heap.objs.size+1 from Js ..]
 rw [Zc]
 exact wpAny_bind (wpAny_pure (wpAny_pure h))
section
variable {X:Cx} {scope:Scope} {z0:Str} {own frn:List Str} {fr:List Nat}
theorem CompOk1.parts (S:CompOk1 X scope z0 own fr frn):scope.kind=.function/\(∀ y∈scope.names,y.2=.cell->y.1=z0)/\(∀ y∈scope.names,y.2=.local->scope.names.lookup y.1=some .local) /\
  (∀ y∈scope.names,y.2=.free->X.env.scope.names.lookup y.1=some .cell∨X.env.scope.names.lookup y.1=some .free)/\(own++frn).Nodup/\(∀ x∈frn,scope.names.lookup x=some .free)/\scope.names.lookup z0=some .cell/\∀ y∈scope.names,y.2=.free->y.1≠z0:=by
 have h:=S.ck
 unfold mF at h
 simp only [Jj,Qu,decide_eq_true_eq,Bool.or_eq_true,bne_iff_ne,ne_eq,beq_iff_eq] at h
 obtain ⟨⟨⟨⟨⟨⟨⟨h1,h2⟩,h3⟩,h4⟩,h5⟩,h7⟩,h8⟩,h9⟩:=h
 refine ⟨h1,fun y hy e=>?_,fun y hy e=>?_,fun y hy e=>?_,h5,h7,h8,fun y hy e=>?_⟩
 ·rcases h2 y hy with z | z
  ·exact absurd e z
  ·exact z
 ·rcases h3 y hy with z | z
  ·exact absurd e z
  ·exact z
 ·rcases h4 y hy with (z | z) | z
  ·exact absurd e z
  ·exact .inl z
  ·exact .inr z
 ·rcases h9 y hy with z | z
  ·exact absurd e z
  ·exact z
theorem vS (S:CompOk1 X scope z0 own fr frn) (σ:St):(blk own.length fr σ).length=(own++frn).length:=by
 unfold blk
 rw [Qv,Qv,Xg,Qa,S.len]
theorem pU {x:Str} {c C:Addr} {cl:List (Str×Addr)} (h:((z0,C+1)::cl).lookup x=some c):(x=z0/\c=C+1)∨(x≠z0/\cl.lookup x=some c):=by
 rw [Jx] at h
 cases e:x==z0 with
 | true=>rw [e] at h; exact .inl ⟨by simpa using e,(Option.some.inj h).symm⟩
 | false=>rw [e] at h; exact .inr ⟨by simpa using e,h⟩
theorem vT {x:Str} {C:Addr} {cl:List (Str×Addr)} (h:x≠z0):((z0,C+1)::cl).lookup x=cl.lookup x:=by
 rw [Jx,show (x==z0)=false by simpa using h]
theorem aBl {C:Addr} {cl:List (Str×Addr)}:((z0,C+1)::cl).lookup z0=some (C+1):=by
 rw [Jx,show (z0==z0)=true by simp]
theorem aAl {pins:List (Addr×Obj)} {σ:St} {H:Hp} {s:Shared} {fp:List Addr} {h1:Heap} {tk:Nat} {C D:Addr} {oD:Obj} {m:Str->Option Value} (I:Inv X pins σ H s) (S:CompOk1 X scope z0 own fr frn)
  (hfp:∀ b∈fp,iL X pins H b) (hlt:∀ b∈fp,b < s.heap.objs.size) (hC:s.heap.objs.size<=C) (hn:h1.Ns C m) (hk:∀ b o,s.heap.get? b=some o->h1.get? b=some o)
  (hD:s.heap.objs.size<=D) (hDC:D≠C) (hoD:h1.get? D=some oD) (hdD:∀ v,oD.data≠.cell v) (hcl:h1.IsCell (C+1) none) :
  Inv (bW X scope z0 (own++frn) C s H fp) [(D,oD)] (blk own.length fr σ) H { s with heap:=h1,toks:=tk }:=by
 obtain ⟨p1,p2,p3,p4,p5,p7,p8,p9⟩:=S.parts
 have below:∀ b,b < s.heap.objs.size->b≠C:=fun b hb z=>Qy _ (Qi (z ▸ hb) hC)
 have clsub:∀ x c,(cN X.env scope.names []).lookup x=some c->X.env.cells.lookup x=some c:=fun x c e=>by
  rcases hZ _ _ _ _ (dJ e) with q | q
  ·cases q
  ·exact q
 have clt:∀ x c,X.env.cells.lookup x=some c->c < s.heap.objs.size:=fun x c e=>by
  obtain ⟨v,q⟩:=I.cell x c e
  exact q.lt
 have nstk:∀ b∈fp,b∉frs X.stack:=fun b hb z=>by
  obtain ⟨_,f1,f2,_⟩:=hfp b hb
  rcases Ql.mp (I.stkSub b z) with e | e
  ·exact f1 e
  ·exact f2 e
 have Dfs:D∉frs X.stack:=fun z=>by
  have q:=I.stkSub D z
  rcases Ql.mp q with e | e
  ·exact Qy _ (Qi (e ▸ I.lt:D < _) hD)
  ·exact I.nofs hD e
 refine ⟨⟨I.ok.mod,p1,I.ok.glob,I.ok.blt,hC,fun x y c e1 e2=>?inj,fun x hx=>?has,fun x c e e2=>?cab,I.ok.hd,I.ok.frames,.inl rfl,fun b hb=>?exf,I.bs,Qt I.ok.bsz I.sz,fun b o e hb=>?noex,nstk,I.stack,I.stkFree⟩,
  rfl,I.bare,Un.kept hk,⟨m,hn,fun i x v e1 e2 e3=>?loc⟩,fun x c e=>?cell,I.hok.fresh hC,fun x c e=>?freeC,fun p hp=>?pin,I.hok.kept hk,vS S σ⟩
 case inj =>
  have e1':((z0,C+1)::cN X.env scope.names []).lookup x=some c:=e1
  have e2':((z0,C+1)::cN X.env scope.names []).lookup y=some c:=e2
  rcases pU e1' with ⟨rfl,rfl⟩ | ⟨n1,q1⟩ <;> rcases pU e2' with ⟨rfl,e⟩ | ⟨n2,q2⟩
  ·rfl
  ·exact absurd (clt _ _ (clsub _ _ q2)) (Nat.not_lt.mpr (Xx hC))
  ·subst e
   exact absurd (clt _ _ (clsub _ _ q1)) (Nat.not_lt.mpr (Xx hC))
  ·exact I.ok.inj x y c (clsub x c q1) (clsub y c q2)
 case has =>
  have hx':(relabel scope X.env).names.lookup x=some .cell∨(relabel scope X.env).names.lookup x=some .free:=hx
  show ∃ c,((z0,C+1)::cN X.env scope.names []).lookup x=some c
  by_cases hz:x=z0
  ·rw [hz,aBl]
   exact ⟨_,rfl⟩
  ·rw [vT hz]
   have hl:(relabel scope X.env).names.lookup x=_:=fJ (env:=X.env) x scope.names
   rw [hl] at hx'
   cases e:scope.names.lookup x with
   | none =>
    rw [e] at hx'
    rcases hx' with z | z <;> cases z
   | some k =>
    have hmem:=dJ e
    have hkf:k=.free:=by
     rw [e] at hx'
     simp only [Xa,Option.some.injEq] at hx'
     by_cases c:(k==NameKind.free && X.env.scope.kind==.function && X.env.kindOf x==some .cell)=true
     ·simp only [Jj,beq_iff_eq] at c
      exact c.1.1
     ·rw [if_neg c] at hx'
      rcases hx' with z | z
      ·exact absurd (p2 _ hmem z) hz
      ·exact z
    subst hkf
    obtain ⟨c,hc⟩:=I.ok.has x (p4 _ hmem rfl)
    obtain ⟨c',hc'⟩:=iU (env:=X.env) scope.names [] x (.inr ⟨hmem,c,hc⟩)
    exact iA hc'
 case cab =>
  have e':(x==z0)=true:=e
  have e2':((z0,C+1)::cN X.env scope.names []).lookup x=some c:=e2
  rcases pU e2' with ⟨_,rfl⟩ | ⟨n1,_⟩
  ·exact Xx hC
  ·exact absurd (by simpa using e') n1
 case exf =>
  refine ⟨below b (hlt b hb),fun x c e=>?_⟩
  have e':((z0,C+1)::cN X.env scope.names []).lookup x=some c:=e
  rcases pU e' with ⟨_,rfl⟩ | ⟨_,q⟩
  ·exact fun z=>Qy _ (Qi (hlt b hb) (by rw [<- z]; exact Xx hC))
  ·exact (hfp b hb).2.2.2.2.1 x c (clsub x c q)
 case noex =>
  rcases (hfp b hb).2.2.2.1 with z | z
  ·exact I.ok.noex b o e z
  ·exact absurd (Qi (Qm (I.ok.bs b o e).1) z) (Qy _)
 case loc =>
  show ∃ u,bI v u/\aDM _ _ _ x u
  have e1':(own++frn)[i]?=some x:=e1
  have e2':(blk own.length fr σ)[i]?=some (some v):=e2
  unfold blk at e2'
  by_cases hi:i < own.length
  ·rw [Jg (by simpa using hi),Xn] at e2'
   rw [if_pos hi] at e2'
   cases e2'
  ·rw [Jn (by simpa using hi)] at e2'
   rw [Jn (by omega)] at e1'
   rw [Xg,Qg] at e2'
   obtain ⟨j,hj1,hj2⟩:=S.ix _ _ e1'
   rw [hj1] at e2'
   simp only [Xa,Option.some.injEq] at e2'
   have hσ:σ[j]?=some (some v):=by
    cases q:σ[j]? with
    | none=>rw [q] at e2'; cases e2'
    | some w=>rw [q] at e2'; exact congrArg some e2'
   have hfree:=p7 x (Qe e1')
   have hmem:=dJ hfree
   have hxz:x≠z0:=p9 _ hmem rfl
   have kx:=p4 _ hmem rfl
   have vis:Vis X.env.scope x:=by
    rcases kx with z | z
    ·exact .inr (.inl z)
    ·exact .inr (.inr z)
   obtain ⟨m0,hn0,hl0⟩:=I.loc
   obtain ⟨u,ru,lk⟩:=hl0 j x v hj2 hσ vis
   refine ⟨u,ru,.inr ⟨?_,?_⟩⟩
   ·show (relabel scope X.env).names.lookup x=some .cell∨(relabel scope X.env).names.lookup x=some .free
    have hl:(relabel scope X.env).names.lookup x=_:=fJ (env:=X.env) x scope.names
    rw [hl,hfree]
    simp only [Xa,Option.some.injEq]
    by_cases c:(NameKind.free==NameKind.free && X.env.scope.kind==.function && X.env.kindOf x==some .cell)=true
    ·rw [if_pos c]; exact .inl rfl
    ·rw [if_neg c]; exact .inr rfl
   ·rcases lk with ⟨kl,_⟩ | ⟨_,c,hc,hcell⟩
    ·have kl':X.env.scope.names.lookup x=some .local:=kl
     rcases kx with z | z <;> (have z':X.env.scope.names.lookup x=_:=z; rw [kl'] at z'; cases z')
    ·obtain ⟨c',hc'⟩:=iU (env:=X.env) scope.names [] x (.inr ⟨hmem,c,hc⟩)
     obtain ⟨c2,hc2⟩:=iA hc'
     have ec:c2=c:=by
      have:=clsub x c2 hc2
      rw [hc] at this
      exact (Option.some.inj this).symm
     subst ec
     obtain ⟨oc,ho,hd⟩:=hcell
     exact ⟨c2,(vT hxz).trans hc2,oc,hk _ _ ho,hd⟩
 case cell =>
  have e':((z0,C+1)::cN X.env scope.names []).lookup x=some c:=e
  rcases pU e' with ⟨_,rfl⟩ | ⟨_,q⟩
  ·exact ⟨none,hcl⟩
  ·obtain ⟨v,o,ho,hd⟩:=I.cell x c (clsub x c q)
   exact ⟨v,o,hk _ _ ho,hd⟩
 case freeC =>
  have e':((z0,C+1)::cN X.env scope.names []).lookup x=some c:=e
  rcases pU e' with ⟨_,rfl⟩ | ⟨_,q⟩
  ·exact I.hok.fresh (Xx hC)
  ·exact I.freeC x c (clsub x c q)
 case pin =>
  have hp':p∈([]:List (Addr×Obj))++[(D,oD)]:=hp
  simp only [Zv,Qs] at hp'
  subst hp'
  exact ⟨hoD,I.hok.fresh hD,hDC,Dfs,hdD⟩
end
section
variable {X:Cx} {scope:Scope} {z0:Str} {own frn:List Str} {fr:List Nat} {elt tg iter:Expr} {ifs:List Expr} {pos:Pos} {wi:TI} {g:TG} {tt:TT} {te:TE}
theorem oP {pins:List (Addr×Obj)} {σ:St} {H2:Hp} {s2:Shared} {it:Addr} {fp:List Addr} {tn:Nat->Heap->Prop} {J:It} {RR:Value->Addr->Result->Shared->Prop} {E:Value->Shared->Prop} {Q:Hp->List V->Prop}
  (S:CompOk1 X scope z0 own fr frn) (hc:X.calm=true) (I2:Inv X pins σ H2 s2) (T:Turn X.prog X.w X.K tg J fp it tn) (st2:tn 0 s2.heap) (f2:∀ b∈fp,iL X pins H2 b)
  (hg:∀ C s0 H0 fp,PG (bW X scope z0 (own++frn) C s0 H0 fp) tg g) (ht:∀ C s0 H0 fp,PF (bW X scope z0 (own++frn) C s0 H0 fp) ifs tt) (he:∀ C s0 H0 fp,PE (bW X scope z0 (own++frn) C s0 H0 fp) elt te)
  (w:∃ W:Nat->Nat->List V->St->Hp->Prop,(∃ m,W 0 m [] (blk own.length fr σ) H2)/\∀ i m ys σ' H,W i m ys σ' H ->
   (J.stop i H/\Q H ys) ∨
   (J.go i H/\∃ N:List V->St->Hp->Prop,(∀ ys' σ2 H2,N ys' σ2 H2->∃ m',m' < m/\W (i+1) m' ys' σ2 H2) /\
    ∀ x H',J.yld i H x H'->g x σ' H' fun σ2 H2=>tt σ2 H2 fun b H3=>if b=true then te σ2 H3 fun y H4=>ys.length < sizeLine/\N (ys++[y]) σ2 H4 else N ys σ2 H3))
  (hRR:∀ (C D:Addr) (s':Shared) (H':Hp) (ys:List V) (its:Array Value) (m:Str->Option Value),s2.heap.objs.size<=C->s2.heap.objs.size<=D->D≠C->s'.heap.Ns C m->H' C=none->H' D=none->s'.heap.PlainList D its->bF ys its.toList->ys.length<=sizeLine ->
   Inv X pins σ H' s'->Q H' ys->RR (.ref D) C (.ok .next) s') :
  wpAny (model X.prog X.w) X.A (newList []) (fun acc s₃=>wpAny (model X.prog X.w) X.A (newFunctionEnv scope X.env.globals (cN X.env scope.names []) [] X.env.qual none .none (some X.env)) (fun cenv s₄ =>
   codeAny (model X.prog X.w) X.A (.compStart (.ListComp elt [⟨tg,iter,ifs,0⟩] scope pos) 0 (.ref it) acc { cenv with scope:=relabel scope X.env }) (RR acc cenv.locals) s₄) E s₃) E s2:=by
 obtain ⟨p1,p2,p3,p4,p5,p7,p8,p9⟩:=S.parts
 obtain ⟨W,⟨m0,w0⟩,turn⟩:=w
 refine wpAny_newObj_type (aCD S.cf S.pc ?_)
 dsimp only
 generalize hH2:s2.heap.push { cls:=.type "list",dict:=none,data:=.seq ([]:List Value).toArray }=HD
 generalize hh1:(HD.push { cls:=.type "dict",data:=.dict #[] }).push { cls:=.type "cell",data:=.cell none }=h₁
 have hCs:HD.objs.size=s2.heap.objs.size+1:=by rw [<- hH2,Js]
 have hns₁:h₁.Ns HD.objs.size (fun _=>none):=by rw [<- hh1]; exact (Heap.Ns.new HD (.type "dict")).push _
 have hcell:h₁.IsCell (HD.objs.size+1) none:=by
  rw [<- hh1]
  refine ⟨{ cls:=.type "cell",data:=.cell none },?_,rfl⟩
  have e:=Qn (HD.push { cls:=.type "dict",data:=.dict #[] }) (o:={ cls:=.type "cell",data:=.cell none }) rfl
  rw [Js] at e
  exact e
 have hDC:s2.heap.objs.size≠HD.objs.size:=by omega
 have hCle:s2.heap.objs.size<=HD.objs.size:=by omega
 have below:∀ b,b < s2.heap.objs.size->b≠HD.objs.size/\b≠s2.heap.objs.size:=fun b hb=>⟨by omega,by omega⟩
 have old:∀ b o,s2.heap.get? b=some o->h₁.get? b=some o:=fun b o e=>by rw [<- hh1]; exact Qb _ (Qb _ (hH2 ▸ Qb _ e))
 have hacc:h₁.get? s2.heap.objs.size=some { cls:=.type "list",data:=.seq ([]:List Value).toArray }:=by rw [<- hh1]; exact Qb _ (Qb _ (hH2 ▸ Qn _ rfl))
 have flt:∀ b∈fp,b < s2.heap.objs.size:=fun b hb=>by
  obtain ⟨o,e,_⟩:=T.obj _ _ st2 b hb
  exact Qm e
 generalize hDg:s2.heap.objs.size=D at *
 generalize hCg:HD.objs.size=C at *
 have st3:tn 0 h₁:=T.keep _ _ _ st2 fun b _ o e=>old b o e
 -- facts of the block
 have clsub:∀ x c,(cN X.env scope.names []).lookup x=some c->X.env.cells.lookup x=some c:=fun x c e=>by
  rcases hZ _ _ _ _ (dJ e) with q | q
  ·cases q
  ·exact q
 have hcs:∀ x c,((z0,C+1)::cN X.env scope.names []).lookup x=some c->c=C+1∨X.env.cells.lookup x=some c:=fun x c e=>by
  rcases pU e with ⟨_,e⟩ | ⟨_,e⟩
  ·exact .inl e
  ·exact .inr (clsub x c e)
 have cD:∀ x c,((z0,C+1)::cN X.env scope.names []).lookup x=some c->c≠D:=fun x c e z=>by
  rcases hcs x c e with e | e
  ·omega
  obtain ⟨v,q⟩:=I2.cell x c e
  exact Qy _ (Qi q.lt (by rw [hDg,z]; exact Qh _))
 have loop:∀ s₃:Shared,s₃={ s2 with heap:=h₁,toks:=s2.toks } ->
   codeAny (model X.prog X.w) X.A (.compLoop (.ListComp elt [⟨tg,iter,ifs,0⟩] scope pos) 0 (.ref it) (.ref D) (aBk X scope z0 C)) (RR (.ref D) C) s₃:=by
  rintro s₃ rfl
  have I3:Inv (bW X scope z0 (own++frn) C s2 H2 fp) [(D,_)] (blk own.length fr σ) H2 { s2 with heap:=h₁,toks:=s2.toks } :=
   aAl (m:=fun _=>none) I2 S f2 (by rw [hDg]; exact flt) (by rw [hDg]; exact hCle) (hns₁:h₁.Ns C _) old (by rw [hDg]; exact Qh _) hDC hacc (fun v z=>by cases z) hcell
  have stat:∀ {H':Hp} {pl:List (Addr×Obj)},(∀ p∈pl,p.1=D)->(∀ b∈fp,H' b=none)->∀ b∈fp,iL (bW X scope z0 (own++frn) C s2 H2 fp) pl H' b:=fun {H' pl} hpl hn b hb=>by
   refine ⟨hn b hb,(below b (flt b hb)).1,fun z=>?_,.inl hb,fun x c e=>(by
    rcases hcs x c e with e | e
    ·exact fun z=>Qy _ (Qi (flt b hb) (by rw [<- z,e]; exact Xx hCle))
    ·exact (f2 b hb).2.2.2.2.1 x c e),fun p hp=>?_⟩
   ·have z':b∈frs X.stack:=z
    rcases Ql.mp (I2.stkSub b z') with e | e
    ·exact (f2 b hb).2.1 e
    ·exact (f2 b hb).2.2.1 e
   ·have hp':p∈pl:=by simpa [bW] using hp
    rw [hpl p hp']
    exact Ne.symm (below b (flt b hb)).2
  refine oN (env:=aBk X scope z0 C) (fun n s'=>∃ i σ' H' ys its o,Inv (bW X scope z0 (own++frn) C s2 H2 fp) [(D,o)] σ' H' s'/\s'.heap.PlainList D its/\bF ys its.toList/\ys.length<=sizeLine/\tn i s'.heap/\(∀ b∈fp,H' b=none)/\W i n ys σ' H') ?_ m0
   ⟨0,_,H2,[],#[],_,I3,⟨_,hacc⟩,.nil,Jf _,st3,fun b hb=>(f2 b hb).1,w0⟩
  rintro n s5 ⟨i,σ5,H5,ys,its,o,I5,pl5,v5,z5,st5,fr5,w5⟩
  have one:∀ {o:Obj},∀ p∈[(D,o)],p.1=D:=fun p hp=>by
   have e:=Qs.mp hp
   rw [e]
  rcases turn i n ys σ5 H5 w5 with ⟨stop,qn⟩ | ⟨go,N,hN,step⟩
  ·refine wpAny_mono (T.done (bW X scope z0 (own++frn) C s2 H2 fp) rfl rfl rfl hc i _ s5 σ5 H5 (fun _ _=>False) I5 (stat one fr5) st5 stop) (fun r s6 hx9=>?_) fun _ _ z=>z
   obtain ⟨hr,I6⟩:=hx9
   subst hr
   obtain ⟨m6,hn6,_⟩:=I6.loc
   have p6:=I6.pin (D,o) (by simp [bW])
   have p5':=I5.pin (D,o) (by simp [bW])
   have pl6:s6.heap.PlainList D its:=by
    obtain ⟨k,e⟩:=pl5
    have e1:o=_:=Option.some.inj (p5'.1.symm.trans e)
    exact ⟨k,by rw [p6.1]; exact congrArg some e1⟩
   have IX:Inv X pins σ H5 s6:=I2.call' (ch:=fp) I6.os I6.base I6.hok I6.bare fun b hb=>⟨(f2 b hb).2.2.2.1,(f2 b hb).2.1,(f2 b hb).2.2.2.2.1,(f2 b hb).2.2.2.2.2⟩
   exact hRR C D s6 H5 ys its m6 hCle (Qh _) hDC hn6 I6.free p6.2.1 pl6 v5 z5 IX qn
  ·refine wpAny_mono (T.item (bW X scope z0 (own++frn) C s2 H2 fp) rfl rfl rfl hc i _ s5 σ5 H5 (fun _ _=>False) I5 (stat one fr5) st5 go) (fun r s6 hx9=>?_) fun _ _ z=>z
   obtain ⟨u,hr,h6⟩:=hx9
   subst hr
   refine wpAny_mono h6 (fun _ s7 hx9=>?_) fun _ _ z=>z
   obtain ⟨x,H7,I7,r7,y7,st7,fr7⟩:=hx9
   have I7':=I7.pinned (stat one fr7) (T.obj _ _ st7)
   refine wpAny_mono (hg C s2 H2 fp _ s7 σ5 H7 x u _ I7' r7 (step x H7 y7)) (fun _ s8 hx9=>?_) fun _ _ z=>z
   obtain ⟨σ8,H8,I8,q8⟩:=hx9
   refine wpAny_mono (ht C s2 H2 fp _ s8 σ8 H8 _ I8 q8) (fun b s9 hx9=>?_) fun _ _ z=>z
   obtain ⟨H9,I9,q9⟩:=hx9
   -- what stands of the iterator and of the gathered list behind the tests,behind the item
   have keepT:∀ {H':Hp} {s':Shared} {σ':St},Inv (bW X scope z0 (own++frn) C s2 H2 fp) ([(D,o)]++kT fp s7.heap) σ' H' s'->tn (i+1) s'.heap/\(∀ b∈fp,H' b=none)/\s'.heap.PlainList D its/\H' D=none:=fun {H' s' σ'} I'=>by
    refine ⟨T.keep _ _ _ st7 fun b hb o e=>(I'.pin (b,o) (Qo _ (Qo _ (dX hb e)))).1,fun b hb=>?_,?_,?_⟩
    ·obtain ⟨o,e,d⟩:=T.obj _ _ st7 b hb
     exact (I'.pin (b,o) (Qo _ (Qo _ (dX hb e)))).2.1
    ·have p':=I'.pin (D,o) (by simp [bW])
     have p5':=I5.pin (D,o) (by simp [bW])
     obtain ⟨k,e⟩:=pl5
     have e1:o=_:=Option.some.inj (p5'.1.symm.trans e)
     exact ⟨k,by rw [p'.1]; exact congrArg some e1⟩
    ·exact (I'.pin (D,o) (by simp [bW])).2.1
   cases b with
   | false =>
    rw [if_neg Qz] at q9
    rw [if_neg Qz]
    obtain ⟨m',hm,w'⟩:=hN ys σ8 H9 q9
    obtain ⟨t9,fr9,pl9,_⟩:=keepT I9
    exact ⟨m',hm,i+1,σ8,H9,ys,its,o,I9.unpinned,pl9,v5,z5,t9,fr9,w'⟩
   | true =>
    rw [if_pos rfl] at q9
    rw [if_pos rfl]
    refine wpAny_mono (he C s2 H2 fp _ s9 σ8 H9 _ I9 q9) (fun y s10 hx9=>?_) fun _ _ z=>z
    obtain ⟨yv,H10,I10,r10,lt10,q10⟩:=hx9
    obtain ⟨t10,fr10,pl10,hD10⟩:=keepT I10
    have hl:=v5.length
    refine wpAny_list_append_plain pl10 (fun h11 pl11 sb11=>?_) (by rw [<- Array.length_toList,<- hl]; exact Zs lt10)
    obtain ⟨m',hm,w'⟩:=hN _ σ8 H10 q10
    have I10':Inv (bW X scope z0 (own++frn) C s2 H2 fp) [] σ8 H10 s10:=I10.pins_of fun p hp=>by cases hp
    have I11:Inv (bW X scope z0 (own++frn) C s2 H2 fp) [] σ8 H10 { s10 with heap:=h11 } :=
     I10'.turned (t':=s10.toks) (it:=D) (fun b o hb e=>(sb11.2 b hb).trans e) hD10 hDC (.inr (by show s2.heap.objs.size<=D; rw [hDg]; exact Qh _)) cD (fun p hp=>by simp [bW] at hp)
    obtain ⟨k11,e11⟩:=id pl11
    have DfsX:D∉frs X.stack:=fun z=>by
     rcases Ql.mp (I2.stkSub D z) with e | e
     ·exact Qy _ (Qi I2.lt (by rw [hDg,e]; exact Qh _))
     ·exact I2.nofs (by rw [hDg]; exact Qh _) e
    refine ⟨m',hm,i+1,σ8,H10,ys++[yv],its.push y,{ cls:=.type "list",data:=.seq (its.push y) k11 },I11.pins_of fun p hp=>?_,pl11,?_,by rw [Qv]; show ys.length+1<=_; omega,T.keep _ _ _ t10 fun b hb o e=>(sb11.2 b (below b (flt b hb)).2).trans e,fr10,w'⟩
    ·have e:=Qs.mp hp
     subst e
     exact ⟨e11,hD10,hDC,DfsX,fun v z=>by cases z⟩
    ·rw [Array.toList_push]
     exact v5.append (.cons r10 .nil)
 exact codeAny_compStart_list (loop _ rfl) (T.self X.A 0 _ _ _ st3 (loop _ rfl))
theorem CompOk1.clo {pins:List (Addr×Obj)} {σ:St} {H:Hp} {s:Shared} (S:CompOk1 X scope z0 own fr frn) (I:Inv X pins σ H s):closureFor scope X.env=pure (cN X.env scope.names []):=by
 obtain ⟨p1,p2,p3,p4,p5,p7,p8,p9⟩:=S.parts
 exact aBa fun y hy e=>I.ok.has y.1 (p4 y hy e)
theorem aBm (S:CompOk1 X scope z0 own fr frn) (hc:X.calm=true) (hi:PI X tg iter wi) (hg:∀ C s0 H0 fp,PG (bW X scope z0 (own++frn) C s0 H0 fp) tg g) (ht:∀ C s0 H0 fp,PF (bW X scope z0 (own++frn) C s0 H0 fp) ifs tt)
  (he:∀ C s0 H0 fp,PE (bW X scope z0 (own++frn) C s0 H0 fp) elt te) (hs:∀ x,foldedSetIterable iter X.env x=pure x:=by intro _; rfl) :
  PE X (.ListComp elt [⟨tg,iter,ifs,0⟩] scope pos) (yT own.length fr wi g tt te):=by
 intro pins s σ H Q I h
 obtain ⟨p1,p2,p3,p4,p5,p7,p8,p9⟩:=S.parts
 rw [eval_ListComp]
 refine wpAny_comprehension_free (use:=none) rfl hs (S.clo I) p1 p3 (thn (hi pins s σ H _ I h) fun v s1 h1=>thn h1 fun itv s2 h2=>?_)
 obtain ⟨it,fp,tn,J,H2,e,I2,T,st2,f2,hw⟩:=h2
 subst e
 refine oP (RR:=fun acc C=>compPost (model X.prog X.w) X.A X.xe none (EP X pins σ Q) acc C) (Q:=fun H ys=>∀ p,H p=none->Q (.ref p) (upd H p (.lst ys))) S hc I2 T st2 f2 hg ht he hw ?_
 intro C D s' H' ys its m hC hD hDC hns hHC hHD pl v z IX q
 have cne:∀ a,s2.heap.objs.size<=a->∀ x c,X.env.cells.lookup x=some c->c≠a:=fun a ha x c e z=>by
  obtain ⟨v,w⟩:=I2.cell x c e
  exact Qy _ (Qi w.lt (by rw [z]; exact ha))
 have pne:∀ a,s2.heap.objs.size<=a->∀ p∈X.pn++pins,p.1≠a:=fun a ha p hp z=>Qy _ (Qi (Qm (I2.pin p hp).1) (by rw [z]; exact ha))
 have lne:∀ a,s2.heap.objs.size<=a->a≠X.env.locals:=fun a ha z=>Qy _ (Qi I2.lt (by rw [<- z]; exact ha))
 refine ⟨m,hns,fun h' hs'=>⟨.ref D,upd H' D (.lst ys),?_,rfl,q D hHD⟩⟩
 have IT:Inv X pins σ (upd H' D (.lst ys)) s':=IX.track pl v z hHD (lne D hD) (Qt I2.sz hD) (cne D hD) (pne D hD)
 exact IT.turned (t':=s'.toks) (it:=C) (fun b o hb e=>(hs'.2 b hb).trans e) (by rw [aG (Ne.symm hDC)]; exact hHC) (lne C hC) (.inr (Qt I2.sz hC)) (cne C hC) (pne C hC)
theorem vU {i:Nat} {y:Str} {py spos:Pos} (S:CompOk1 X scope z0 own fr frn) (hc:X.calm=true) (hN:X.N.Nodup) (hyi:X.N[i]?=some y) (hx:X.env.scope.names.lookup y=some .local)
  (hsw:swapsWith (.ListComp elt [⟨tg,iter,ifs,0⟩] scope pos) (some (.Name y py)) spos.line X.env=pure true)
  (hi:PI X tg iter wi) (hg:∀ C s0 H0 fp,PG (bW X scope z0 (own++frn) C s0 H0 fp) tg g) (ht:∀ C s0 H0 fp,PF (bW X scope z0 (own++frn) C s0 H0 fp) ifs tt)
  (he:∀ C s0 H0 fp,PE (bW X scope z0 (own++frn) C s0 H0 fp) elt te) (hs:∀ x,foldedSetIterable iter X.env x=pure x:=by intro _; rfl) :
  PS X (.Assign [.Name y py] (.ListComp elt [⟨tg,iter,ifs,0⟩] scope pos) spos) (aCp (yT own.length fr wi g tt te) (dY i)):=by
 intro pins s σ H D I h
 obtain ⟨p1,p2,p3,p4,p5,p7,p8,p9⟩:=S.parts
 rw [exec_Assign_Name_used _ _ _ _ hsw]
 refine wpAny_bind (wpAny_standAt (wpAny_bind ?_))
 show wpAny _ X.A (do let _<-comprehension (.ListComp elt [⟨tg,iter,ifs,0⟩] scope pos) scope X.env _ (newList []) false (eval iter X.env) (some (assign (.Name y py) X.env))) _ _ s
 refine wpAny_bind (wpAny_mono (wpAny_comprehension_free (use:=some (assign (.Name y py) X.env)) (Q:=fun _ s'=>SP X pins D .next s') rfl hs (S.clo I) p1 p3 (thn (hi pins s σ H _ I h) fun v s1 h1=>thn h1 fun itv s2 h2=>?_))
  (fun _ s' hq=>wpAny_pure (wpAny_pure hq)) fun _ _ e=>e)
 obtain ⟨it,fp,tn,J,H2,e,I2,T,st2,f2,hw⟩:=h2
 subst e
 refine oP (RR:=fun acc C=>compPost (model X.prog X.w) X.A X.xe (some (assign (.Name y py) X.env)) (fun _ s'=>SP X pins D .next s') acc C) (Q:=fun H ys=>∀ p,H p=none->D.nx (σ.set i (some (.ref p))) (upd H p (.lst ys))) S hc I2 T st2 f2 hg ht he hw ?_
 intro C L s' H' ys its m hC hL hLC hns hHC hHL pl v z IX q
 have cne:∀ a,s2.heap.objs.size<=a->∀ x c,X.env.cells.lookup x=some c->c≠a:=fun a ha x c e z=>by
  obtain ⟨v,w⟩:=I2.cell x c e
  exact Qy _ (Qi w.lt (by rw [z]; exact ha))
 have pne:∀ a,s2.heap.objs.size<=a->∀ p∈X.pn++pins,p.1≠a:=fun a ha p hp z=>Qy _ (Qi (Qm (I2.pin p hp).1) (by rw [z]; exact ha))
 have lne:∀ a,s2.heap.objs.size<=a->a≠X.env.locals:=fun a ha z=>Qy _ (Qi I2.lt (by rw [<- z]; exact ha))
 have IT:Inv X pins σ (upd H' L (.lst ys)) s':=IX.track pl v z hHL (lne L hL) (Qt I2.sz hL) (cne L hL) (pne L hL)
 show wpAny _ _ (assign (.Name y py) X.env (.ref L)) _ _ s'
 refine wpAny_assign_Name (nN IT hN hyi (.inl hx) (v:=.ref L) rfl (fun s'' I'' hch=>?_) (.inr hx))
 obtain ⟨a,sb,ha⟩:=hch
 have hCa:C≠a:=by
  rcases ha with e | e
  ·rw [e]; exact lne C hC
  ·exact Ne.symm (cne C hC y a e)
 refine ⟨m,hns.sameBut sb hCa,fun h' hs'=>⟨σ.set i (some (.ref L)),upd H' L (.lst ys),?_,q L hHL⟩⟩
 exact I''.turned (t':=s''.toks) (it:=C) (fun b o hb e=>(hs'.2 b hb).trans e) (by rw [aG (Ne.symm hLC)]; exact hHC) (lne C hC) (.inr (Qt I2.sz hC)) (cne C hC) (pne C hC)
end
theorem pV {X:Cx} {scope:Scope} {z0:Str} {own frn:List Str} {fr:List Nat} (sc:Scope) (N:List Str) (h1:X.env.scope=sc) (h2:X.N=N) (cf:∀ (n:Nat) (cl:List (Str×Addr)),cellsFrom n scope.names cl=(z0,n)::cl) (pc:∀ h:Heap,pushCells h scope.names=h.push { cls:=.type "cell",data:=.cell none })
  (h:(mF sc scope z0 own frn && oY N frn fr)=true):CompOk1 X scope z0 own fr frn:=by
 rw [Jj] at h
 obtain ⟨ha,hb⟩:=h
 unfold oY at hb
 simp only [Jj,beq_iff_eq,Qu] at hb
 refine ⟨by rw [h1]; exact ha,fun k x hk=>?_,hb.1.symm,cf,pc⟩
 have hlt:k < fr.length:=by rw [<- hb.1]; exact (Qd.mp hk).1
 refine ⟨fr[k],Qc hlt,?_⟩
 have hm:(x,fr[k])∈frn.zip fr:=by
  refine Qe (i:=k) ?_
  rw [Xu]
  exact ⟨hk,Qc hlt⟩
 rw [h2]
 exact hb.2 _ hm
def aBn (scope sc:Scope):Scope:={ scope with names:=scope.names.map fun (n,k)=>if (k==NameKind.free && sc.kind==.function && sc.names.lookup n==some .cell) then (n,NameKind.cell) else (n,k) }
section
variable {X:Cx}
theorem aAm (hc:X.calm=true):eY X (.builtin "min") (fun xs H Q=>∃ (p:Addr) (ns:List Int),xs = [.ref p]/\SqL X.K H p (ns.map V.int)/\0 < ns.length/\∀ M,M∈ns->(∀ a∈ns,M<=a)->Q (.int M) H):=by
 intro pins s σ H xs us Q I r h
 obtain ⟨p,ns,rfl,hx,hne,q⟩:=h
 obtain ⟨u,rfl,rx⟩:=jR r
 cases rx
 obtain ⟨its,rv,pl,hz⟩:=I.list hx
 have hi:IntsAre its ns:=mD rv
 obtain ⟨xs,e⟩:=hi.allInts.items
 have hns:ns=xs.toList.map (·.1):=by
  rw [<- hi.numsOf,<- nums_intItems,<- e]
 have hsz:0 < xs.size:=by
  have h3:=hne; rw [hns,Qa,Array.length_toList] at h3; exact h3
 have hl:=pl.isList
 rw [e] at hl
 refine min_intList (I.ok.hd hc) hl hsz fun v h' tk hv hk=>?_
 obtain ⟨t,rfl⟩:=intItems_at hv
 obtain ⟨h1,h2⟩:=argBest_lt (numAt xs) (xs.size - 1)
 refine ⟨.int _,H,I.kept hk,⟨_,rfl⟩,q _ ?_ fun a ha=>?_⟩
 ·rw [hns,numAt_eq]; exact getD_mem (by rw [Qa,Array.length_toList]; omega)
 ·rw [hns] at ha
  obtain ⟨j,hj,rfl⟩:=mem_getD ha
  rw [Qa,Array.length_toList] at hj
  rw [<- numAt_eq]; exact h2 j (by omega)
end
theorem aDw:bootBuiltins "min" = some (.builtin "min"):=by decide +kernel
theorem aCE {K:PySem.W.Frag} {k1 k2:Sk} {a b:Addr} {xs ys:List V} {g:TG} {tb:TS} {D:Ends} {σ:St} {H:Hp} (Pv:Nat->St->Hp->Prop) (heq:xs.length=ys.length) (h0:Pv 0 σ H) (hl:∀ i σ H,i<=xs.length->Pv i σ H->SqK k1 K H a xs/\SqK k2 K H b ys)
  (hs:∀ i x y p σ H,xs[i]?=some x->ys[i]?=some y->Pv i σ H->H p=none->g (.ref p) σ (upd H p (.tup [x,y])) fun σ2 H2=>tb { D with nx:=Pv (i+1),ct:=Pv (i+1),bk:=D.nx } σ2 H2) (hd:∀ σ H,Pv xs.length σ H->D.nx σ H) :
  ∃ W:Nat->Nat->St->Hp->Prop,(∃ m,W 0 m σ H)/\∀ i m σ H,W i m σ H ->
   ((Itz K k1 k2 a b).stop i H/\D.nx σ H)∨((Itz K k1 k2 a b).go i H/\∃ N:St->Hp->Prop,(∀ σ' H',N σ' H'->∃ m',m' < m/\W (i+1) m' σ' H')/\∀ x H',(Itz K k1 k2 a b).yld i H x H'->g x σ H' fun σ2 H2=>tb { D with nx:=N,ct:=N,bk:=D.nx } σ2 H2):=by
 refine ⟨fun i m σ H=>m=xs.length - i/\i<=xs.length/\Pv i σ H,⟨xs.length,by simp,Jf _,h0⟩,?_⟩
 rintro i m σ H ⟨rfl,hi,p⟩
 obtain ⟨q1,q2⟩:=hl i σ H hi p
 by_cases hlt:i < xs.length
 ·refine .inr ⟨⟨xs,ys,xs[i],ys[i]'(by omega),q1,q2,Qc hlt,Qc (by omega)⟩,Pv (i+1),fun σ' H' p'=>⟨xs.length - (i+1),by omega,rfl,hlt,p'⟩,fun x H' y=>?_⟩
  obtain ⟨z,hz,rfl,hy⟩:=y
  obtain ⟨x,y,h1,h2,rfl⟩:=hy xs ys q1 q2
  exact hs i x y z σ _ h1 h2 p hz
 ·have e:i=xs.length:=by omega
  subst e
  exact .inl ⟨⟨xs,ys,q1,q2,by rw [<- heq,Nat.min_self]⟩,hd σ H p⟩
section
variable {P:Program} {w:World} {K:PySem.W.Frag} {mg:Str->Option Value} {base:Heap} {N:List Str} {qual:Str} {scope:Scope} {f:Addr} {cd:Value} {A:Around} {outer:List Env} {s0:Shared} {H0:Hp} {E:XK}
end
abbrev vbm:List Value:=[.type "ValueError",.type "Exception",.type "BaseException",.type "object"]
def qns:List Str:=["__init__", "__getattribute__", "__getattr__", "__class__"]
inductive TailN (h:Heap) (bmB:List Value):List Value->Prop
 | base:TailN h bmB bmB
 | own {A:Addr} {c0:Value} {dd:Option Addr} {cd:ClassData} {sl:Array (Option Value)} {mA:Str->Option Value} {tl:List Value} :
   h.get? A=some { cls:=c0,dict:=dd,data:=.cls cd,slots:=sl }->h.Ns cd.ns mA->(∀ n∈qns,mA n=none)->TailN h bmB tl->TailN h bmB (.ref A::tl)
theorem TailN.tail {h:Heap} {bmB tl:List Value} (T:TailN h bmB tl):OwnTail h bmB tl:=by
 induction T with
 | base=>exact .base
 | own hA hN hq _ ih=>exact .own hA hN (hq _ (.head _)) ih
theorem TailN.keeps {h h':Heap} {bmB tl:List Value} (T:TailN h bmB tl) (hk:∀ b o,h.get? b=some o->h'.get? b=some o):TailN h' bmB tl:=by
 induction T with
 | base=>exact .base
 | own hA hN hq _ ih=>exact .own (hk _ _ hA) (hN.keeps hk) hq ih
def EcH (h:Heap) (C:Addr) (bm:List Value):Prop:=∃ N nm q bs hdct sn sub ab col dd k0 k1 k2 k3 k5 mN,h.get? C=some (excClassObj nm q C N bs bm hdct sn sub ab col dd k0 k1 k2 k3 k5 "ValueError.__new__")/\h.Ns N mN/\(∀ n∈qns,mN n=none)/\TailN h vbm bm
theorem EcH.keeps {h h':Heap} {C:Addr} {bm:List Value} (x:EcH h C bm) (hk:∀ b o,h.get? b=some o->h'.get? b=some o):EcH h' C bm:=by
 obtain ⟨N,nm,q,bs,hdct,sn,sub,ab,col,dd,k0,k1,k2,k3,k5,mN,hC,hN,hq,T⟩:=x
 exact ⟨N,nm,q,bs,hdct,sn,sub,ab,col,dd,k0,k1,k2,k3,k5,mN,hk _ _ hC,hN.keeps hk,hq,T.keeps hk⟩
section
variable {M:Model} {prog:Program} {w:World} {A:Around} {E:Value->Shared->Prop} {h:Heap} {g:Array GenState} {d:Drawn} {t:Nat} {os:OsState} {a C:Addr} {o:Obj} {bm:List Value}
theorem EcH.has {T:String} (x:EcH h C bm) (hb:vbm.contains (.type T)=true):(Value.ref C::bm).contains (.type T)=true:=by
 obtain ⟨N,nm,q,bs,hdct,sn,sub,ab,col,dd,k0,k1,k2,k3,k5,mN,hC,hN,hmN,TT⟩:=x
 rw [List.contains_cons,TT.tail.hasType hb,Bool.or_true]
end
section
variable {X:Cx}
end
section
variable {P:Program} {w:World} {l:List Env} {H H':Hp} {s s':Shared} {E:XK} {a T C:Addr}
end
section
variable {X:Cx} {pins:List (Addr×Obj)} {σ:St} {H:Hp} {s s':Shared} {E:XK} {e:Value} {M:Model} {A:Around} {F:Value->Shared->Prop} {L:Addr}
end
section
variable {M:Model} {A:Around} {E:Value->Shared->Prop} {h:Heap} {g:Array GenState} {d:Drawn} {t:Nat} {os:OsState} {a C C':Addr} {oe:Obj} {bm bm':List Value}
end
section
variable {X:Cx} {k:Nat} {f:Addr} {fd:FuncData} {ps:List Str} {sp:Sp} {dvs:List V} {ds:List Value} {x:Str} {p pos apos:Pos} {e:Expr} {es:List Expr} {t:TA}
end
section
variable {X:Cx} {K:PySem.W.Frag}
end
structure PEo (X:Cx) (e:Expr) (t:TE):Prop where
 go:PE X e t
structure PAo (X:Cx) (es:List Expr) (t:TA):Prop where
 go:PA X es t
structure PSo (X:Cx) (st:Stmt) (t:TS):Prop where
 go:PS X st t
structure PSso (X:Cx) (sts:List Stmt) (t:TS):Prop where
 go:PSs X sts t
section
variable {X:Cx} {pos:Pos} {e a b:Expr} {es:List Expr} {te ta tb:TE} {t:TA} {st:Stmt} {iK:List Stmt} {ts us:TS}
end
def tDt (K:PySem.W.Frag) (Z:List Addr) (S:St->Prop) (d:PyData):TE:=fun σ H Q=>S σ/\Fx Z H/\∀ v H',aC H H'->Den K (Vw Z H') d v->Q v H'
def tDA (K:PySem.W.Frag) (Z:List Addr) (S:St->Prop) (ds:List PyData):TA:=fun σ H Q=>S σ/\Fx Z H/\∀ vs H',aC H H'->aO K (Vw Z H') ds vs->Q vs H'
structure Dt (X:Cx) (K:PySem.W.Frag) (Z:List Addr) (S:St->Prop) (e:Expr) (d:PyData):Prop where
 go:PE X e (tDt K Z S d)
structure DA (X:Cx) (K:PySem.W.Frag) (Z:List Addr) (S:St->Prop) (es:List Expr) (ds:List PyData):Prop where
 go:PA X es (tDA K Z S ds)
section
variable {X:Cx} {K:PySem.W.Frag} {Z:List Addr} {S:St->Prop} {te:TE} {pos:Pos} {e a b:Expr} {es:List Expr} {d:PyData} {ds:List PyData}
theorem PE.imp {t t':TE} (h:PE X e t) (q:∀ σ H Q,t' σ H Q->t σ H Q):PE X e t':=fun pins s σ H Q I z=>h pins s σ H Q I (q σ H Q z)
theorem PA.imp {t t':TA} (h:PA X es t) (q:∀ σ H Q,t' σ H Q->t σ H Q):PA X es t':=fun pos pins s σ H Q I z=>h pos pins s σ H Q I (q σ H Q z)
theorem PSso.ex {sts:List Stmt} {t:TS} {R:TS->Prop} (h:PSso X sts t) (r:R t):∃ t,PSs X sts t/\R t:=⟨t,h.go,r⟩
end
section
variable {X:Cx} {tg l:Expr} {body:List Stmt} {tl:TE} {g:TG} {tb:TS} {pos:Pos}
end
section
variable {prog:Program} {w:World} {A:Around} {E:Value->Shared->Prop} {s:Shared}
end
section
variable {X:Cx}
end
section
variable {prog:Program} {w:World} {A:Around} {E:Value->Shared->Prop} {s:Shared} {e it l:Addr} {n:Nat} {P:Nat->Value->Prop} {st:Nat->Heap->Prop}
theorem aBo {i:Nat} {old:Value} {Q:Value->Shared->Prop} (S:Sub prog w it l n P st) (hei:e≠it) (hel:l≠e) (he:IsEnum s.heap e it i old) (h1:st i s.heap) (hi:i < n)
  (hQ:∀ h' x tk,P i x->IsEnumOut h' e it ((i:Int)+1) x s.heap.objs.size->st (i+1) h'->h'.get? s.heap.objs.size=some { cls:=.type "tuple",data:=.seq #[.int i tk,x] } ->
   (∀ c o,c≠e->c≠it->s.heap.get? c=some o->h'.get? c=some o)->Q (.ref s.heap.objs.size) { s with heap:=h',toks:=s.toks+1 }) :
  wpAny (model prog w) A (Builtin.«enumerate.__next__» ⟨[.ref e],[]⟩) (fun fin s'=>∃ v,fin=.done (.ret v)/\Q v s') E s:=by
 refine wpAny_bind (m:=field (.ref e) 2) (wpAny_field he rfl (x:=.ref it) rfl ?_)
 refine wpAny_bind (m:=Builtin.SmallTypes.nextOf (.ref it)) (S.item _ i _ _ _ hi h1 fun x g1 px t1 b1=>?_)
 have e1:IsEnum g1 e it i old:=b1.extBut _ _ hei he
 refine wpAny_bind (m:=field (.ref e) 3) (wpAny_field e1 rfl (x:=rawInt i) rfl ?_)
 refine wpAny_bind (m:=field (.ref e) 4) (wpAny_field e1 rfl (x:=.none) rfl ?_)
 refine wpAny_bind (m:=mkInt i) (wpAny_mkInt ?_)
 refine wpAny_bind (m:=setField (.ref e) 3 (rawInt ((i:Int)+1))) (wpAny_setField_rec e1 (by simp) fun g2 e2 b2=>?_)
 have e2':IsEnum g2 e it ((i:Int)+1) old:=e2
 refine wpAny_bind (m:=setField (.ref e) 4 .none) (wpAny_setField_rec e2' (by simp) fun g3 e3 b3=>?_)
 have e3':IsEnum g3 e it ((i:Int)+1) old:=e3
 refine wpAny_bind (m:=newTuple [.int i s.toks,x]) (wpAny_newTuple ?_)
 have sz:g3.objs.size=s.heap.objs.size:=by rw [b3.1,b2.1,b1.1]
 have e4:IsEnum (g3.push { cls:=.type "tuple",data:=.seq #[.int i s.toks,x] }) e it ((i:Int)+1) old:=Qb _ e3'
 have T4:(g3.push { cls:=.type "tuple",data:=.seq #[.int i s.toks,x] }).get? s.heap.objs.size=some { cls:=.type "tuple",data:=.seq #[.int i s.toks,x] }:=by rw [<- sz]; exact Qn _ rfl
 have kp4:∀ c o,c≠e->c≠it->s.heap.get? c=some o->(g3.push { cls:=.type "tuple",data:=.seq #[.int i s.toks,x] }).get? c=some o:=fun c o c1 c2 q =>
  Qb _ (b3.extBut _ _ c1 (b2.extBut _ _ c1 (b1.extBut _ _ c2 q)))
 have t4:st (i+1) (g3.push { cls:=.type "tuple",data:=.seq #[.int i s.toks,x] }):=S.keep _ _ _ t1 fun c hc o q=>by
  have c1:c≠e:=by rcases hc with r | r <;> rw [r]; exact Ne.symm hei; exact hel
  exact Qb _ (b3.extBut _ _ c1 (b2.extBut _ _ c1 q))
 have elt:s.heap.objs.size≠e:=Yd (Qm he)
 rw [sz]
 generalize g3.push { cls:=.type "tuple",data:=.seq #[.int i s.toks,x] }=g4 at e4 T4 kp4 t4 ⊢
 refine wpAny_bind (m:=Builtin.SmallTypes.ownedTupleIsFree (.ref e)) ?_
 unfold Builtin.SmallTypes.ownedTupleIsFree
 refine wpAny_bind (wpAny_field e4 rfl (x:=.none) rfl (wpAny_pure ?_))
 simp only [if_true]
 refine wpAny_bind (wpAny_rule ?_)
 refine wpAny_bind (wpAny_field e4 rfl (x:=old) rfl ?_)
 refine wpAny_bind (wpAny_setField_rec e4 (by simp) fun g5 e5 b5=>?_)
 have e5':IsEnum g5 e it ((i:Int)+1) x:=e5
 refine wpAny_bind (m:=Builtin.SmallTypes.ownedTupleHandOut (.ref e) (.ref s.heap.objs.size)) ?_
 unfold Builtin.SmallTypes.ownedTupleHandOut
 refine wpAny_bind (wpAny_setField_rec e5' (by simp) fun g6 e6 b6=>?_)
 have e6':IsEnumOut g6 e it ((i:Int)+1) x s.heap.objs.size:=e6
 refine wpAny_setField_rec e6' (by simp) fun g7 e7 b7=>?_
 have e7':IsEnumOut g7 e it ((i:Int)+1) x s.heap.objs.size:=e7
 have up:∀ c o,c≠e->g4.get? c=some o->g7.get? c=some o:=fun c o c1 q=>b7.extBut _ _ c1 (b6.extBut _ _ c1 (b5.extBut _ _ c1 q))
 refine wpAny_bind (wpAny_letGo (wpAny_pure ⟨_,rfl,hQ g7 x s.toks px e7' ?_ (up _ _ elt T4) fun c o c1 c2 q=>up c o c1 (kp4 c o c1 c2 q)⟩))
 exact S.keep _ _ _ t4 fun c hc o q=>up c o (by rcases hc with r | r <;> rw [r]; exact Ne.symm hei; exact hel) q
theorem aCF {old:Value} {Q:Fin->Shared->Prop} (hh:A.handled=none) (S:Sub prog w it l n P st) (he:IsEnum s.heap e it n old) (h1:st n s.heap)
  (hE:∀ h' x,Heap.ExtBut it s.heap h'->(∃ o,h'.get? x=some o/\o.cls=.type "StopIteration")->E (.ref x) { s with heap:=h' }) :
  wpAny (model prog w) A (Builtin.«enumerate.__next__» ⟨[.ref e],[]⟩) Q E s:=by
 refine wpAny_bind (m:=field (.ref e) 2) (wpAny_field he rfl (x:=.ref it) rfl ?_)
 exact wpAny_bind (m:=Builtin.SmallTypes.nextOf (.ref it)) (S.done _ _ _ _ hh h1 hE)
end
def Ite (K:PySem.W.Frag) (k:Sk) (a:Addr):It :=
 ⟨fun i H => ∃ xs x, SqK k K H a xs /\ xs[i]? = some x,
  fun i H v H'=>∃ p,H p=none/\v=.ref p/\∀ xs,SqK k K H a xs->∃ x,xs[i]?=some x/\H'=upd H p (.tup [.int (i:Nat),x]),
  fun i H=>∃ xs,SqK k K H a xs/\xs.length=i⟩
theorem aAn {P:Program} {w:World} {K:PySem.W.Frag} {es:List Expr} {x1} {pos:Pos} (k:Sk) (a e it:Addr) (hei:e≠it) :
  Turn P w K (.Tuple es x1 pos) (Ite K k a) [e,it] e (fun i h=>(∃ old,IsEnum h e it i old)/\ItK k h it a i) where
 mem:=by simp
 obj:=fun i h st c hc=>by
  obtain ⟨⟨old,he⟩,h1⟩:=st
  simp only [Ql,Ja,or_false] at hc
  rcases hc with rfl | rfl
  ·exact ⟨_,he,fun v q=>by cases q⟩
  ·exact h1.obj
 keep:=fun i h h' st kp=>by
  obtain ⟨⟨old,he⟩,h1⟩:=st
  exact ⟨⟨old,kp e (by simp) _ he⟩,h1.at fun o q=>kp it (by simp) o q⟩
 item:=by
  intro X hP hw hK hc i pins s σ H E I hf st hg
  subst hP hw hK
  obtain ⟨⟨old,he⟩,h1⟩:=st
  obtain ⟨xs,x,ha,hx⟩:=hg
  obtain ⟨its,rv,pa⟩:=I.seqK ha
  obtain ⟨u,hu,ru⟩:=rv.get hx
  have na:∀ c∈[e,it],a≠c:=fun c hc'=>I.seq_ne ha (hf c hc')
  have hT:s.TypeIs (.ref e) "enumerate" := ⟨_,he,rfl⟩
  have hi1:i < its.toArray.size:=by rw [Qj]; exact (Qd.mp hu).1
  unfold pyNext
  refine wpAny_bind (wpAny_attempt (wpAny_callSpecial?_slot (name:=Str.ofString "__next__") hT PySem.F.slot_enumerate_next (wpAny_call_entry PySem.F.slot_enumerate_next hT PySem.F.entry_enumerate_next
   (aBo (rR k X.prog X.w it a its.toArray (na it (by simp))) hei (na e (by simp)) he ⟨h1,pa⟩ hi1 fun h' u' tk pu he' s1 hT' kp=>wpAny_pure ?_) (PySem.F.args_enumerate_next_1 _))))
  have eu:u'=u:=by
   have q:its[i]?=some u':=by simpa using pu
   rw [hu] at q
   exact (Option.some.inj q).symm
  subst eu
  refine ⟨_,rfl,wpAny_letOwnedTupleGo_enum he' fun h2 he2 sb2=>?_⟩
  have Te:s.heap.objs.size≠e:=Yd (Qm he)
  have hT2:h2.get? s.heap.objs.size=some { cls:=.type "tuple",data:=.seq #[.int i tk,u'] }:=sb2.extBut _ _ Te hT'
  have hf0:=I.hok.fresh (Qh s.heap.objs.size)
  have fz:=I.fpOk (Qh s.heap.objs.size) hf0
  have I2:Inv X pins σ H { s with heap:=h2,toks:=s.toks+1 }:=by
   refine I.turnedL (t':=s.toks+1) [e,it] (fun c o hc' q=>?_) hf
   simp only [Ql,Ja,or_false,not_or] at hc'
   exact sb2.extBut _ _ hc'.1 (kp c o hc'.1 hc'.2 q)
  have I3:Inv X pins σ (upd H s.heap.objs.size (.tup [.int (i:Nat),x])) { s with heap:=h2,toks:=s.toks+1 }:=by
   refine I2.trackO (show cJ X.prog X.w _ _ _ (.tup [.int (i:Nat),x]) from ⟨by show 2<=sizeLine; rw [sizeLine_eq]; decide,[.int i tk,u'],0,.cons ⟨tk,rfl⟩ (.cons ru .nil),hT2⟩) hf0 fz.2.1 I.sz fz.2.2.2.2.1 fz.2.2.2.2.2
  refine ⟨.ref s.heap.objs.size,_,I3,rfl,⟨s.heap.objs.size,hf0,rfl,fun xs' ha'=>?_⟩,⟨⟨_,by simpa using he2⟩,s1.1.at fun o q=>sb2.extBut _ _ (Ne.symm hei) q⟩,fun c hc'=>?_⟩
  ·rw [I.seqK_inj ha' ha]
   exact ⟨x,hx,rfl⟩
  ·have cl:c≠s.heap.objs.size:=by
    obtain ⟨o,q⟩:∃ o,s.heap.get? c=some o:=by
     simp only [Ql,Ja,or_false] at hc'
     rcases hc' with rfl | rfl
     ·exact ⟨_,he⟩
     ·obtain ⟨o,q,_⟩:=h1.obj; exact ⟨o,q⟩
    exact Jr (Qm q)
   rw [aG cl]
   exact (hf c hc').1
 done:=by
  intro X hP hw hK hc i pins s σ H E I hf st hg
  subst hP hw hK
  obtain ⟨⟨old,he⟩,h1⟩:=st
  obtain ⟨xs,ha,hlen⟩:=hg
  obtain ⟨its,rv,pa⟩:=I.seqK ha
  have la:=rv.length
  have na:∀ c∈[e,it],a≠c:=fun c hc'=>I.seq_ne ha (hf c hc')
  have hT:s.TypeIs (.ref e) "enumerate" := ⟨_,he,rfl⟩
  have ei:i=its.toArray.size:=by rw [Qj]; omega
  subst ei
  unfold pyNext
  refine wpAny_bind (wpAny_attempt (wpAny_callSpecial?_slot (name:=Str.ofString "__next__") hT PySem.F.slot_enumerate_next (wpAny_call_entry PySem.F.slot_enumerate_next hT PySem.F.entry_enumerate_next
   (aCF (I.ok.hd hc) (rR k X.prog X.w it a its.toArray (na it (by simp))) he ⟨h1,pa⟩ fun h' x kp hx=>?_) (PySem.F.args_enumerate_next_1 _))))
  obtain ⟨oe,hoe,hce⟩:=hx
  refine wpAny_bind (wpAny_isInstance (T := "StopIteration") (b:=true) ⟨oe,hoe,hce⟩ isSubtype_stop (wpAny_pure ⟨rfl,?_⟩))
  refine I.turnedL (t':=s.toks) [e,it] (fun c o hc' q=>?_) hf
  simp only [Ql,Ja,or_false,not_or] at hc'
  exact kp c o hc'.2 q
 self:=fun _ _ _ _ _ st h=>by
  obtain ⟨⟨old,he⟩,_⟩:=st
  exact wpAny_pyIter_enum he h
theorem aAo (k:Sk) (a:Addr) (xs:Array Value) :
  Meets (Builtin.«enumerate.__new__» ⟨[.type "enumerate",.ref a],[]⟩) (fun _ R s=>AtK k s.heap a xs /\
   R (.ok (.ret (.ref (s.heap.push (itK k a)).objs.size))) { s with heap:=(s.heap.push (itK k a)).push { cls:=.type "enumerate",data:=.fields #[.none,.bool false,.ref s.heap.objs.size,rawInt 0,.none,.none] } }) :=
 .of_wp fun prog w A R s h=>by
  obtain ⟨hp,g,d,tk,os⟩:=s
  obtain ⟨hl,h⟩:=h
  have hsub:=sub_enumerate
  have hA:AtK k (Shared.heap ⟨hp,g,d,tk,os⟩) a xs:=hl
  obtain ⟨o,ho,hc⟩:∃ o,hp.get? a=some o/\(o.cls=.type "list" ∨ o.cls=.type "tuple"):=by
   cases k
   ·obtain ⟨o,e,c,_⟩:=hl; exact ⟨o,e,.inl c⟩
   ·obtain ⟨o,e,c,_⟩:=hl; exact ⟨o,e,.inr c⟩
  have hoL:(Shared.heap ⟨hp,g,d,tk,os⟩).get? a=some o:=ho
  wp_walk using AutoSeq1.wpAny_loadPart' hoL
  refine wpAny_stack_any fun st=>wpAny_pure ?_
  split
  ·rename_i c _ _ _ _ _
   cases (c==Value.type "enumerate")
   ·wp_walk using AutoSeq1.wpAny_loadPart' hoL,vN hA
    exact ⟨_,rfl,h⟩
   ·wp_walk using AutoSeq1.wpAny_loadPart' hoL,vN hA
    exact ⟨_,rfl,h⟩
  ·wp_walk using AutoSeq1.wpAny_loadPart' hoL,vN hA
   exact ⟨_,rfl,h⟩
section
variable {X:Cx} {es:List Expr} {x1:Nat} {tpos:Pos}
def aEX (K:PySem.W.Frag) (k:Sk) (ta:TA):TI:=fun σ H R=>ta σ H fun vs H1=>∃ a xs,vs = [.ref a]/\SqK k K H1 a xs/\R (Ite K k a) H1
theorem aCG (k:Sk) {a:Expr} {ta:TA} {p pos:Pos} (hg:Gl X "enumerate") (hm:X.mg "enumerate" = none) (ha:PA X [a] ta) (hs:starEach [a] X.env = [(false,eval a X.env)]:=by rfl) :
  PI X (.Tuple es x1 tpos) (.Call (.Name "enumerate" p) [a] [] pos) (aEX X.K k ta):=by
 intro pins s σ H R I h
 refine Call_ (kB (u:=.type "enumerate") I hg hm (by decide +kernel) (PyProof.Rows.callWith_type1 (thn (ha pos pins s σ H _ I h) fun us s1 hx9=>?_) hs rfl))
 obtain ⟨vs,H1,I1,r1,q1⟩:=hx9
 obtain ⟨l,xs,rfl,hA,q⟩:=q1
 obtain ⟨u1,rfl,r1'⟩:=jR r1
 cases r1'
 obtain ⟨its,rv,pa⟩:=I1.seqK hA
 refine callType_new PySem.F.called_enumerate (by decide) (PySem.F.typeCall_enumerate_1 _) (PySem.F.newCall_enumerate_1 _) (fun obj=>PySem.F.args_object_init_2 obj _) PySem.F.entry_enumerate_new (aAo k l its.toArray) ⟨pa,?_⟩
 have n1:(s1.heap.push (itK k l)).objs.size=s1.heap.objs.size+1:=Js ..
 have g2:IsEnum ((s1.heap.push (itK k l)).push { cls:=.type "enumerate",data:=.fields #[.none,.bool false,.ref s1.heap.objs.size,rawInt 0,.none,.none] }) (s1.heap.push (itK k l)).objs.size s1.heap.objs.size 0 .none:=Qn _ rfl
 have g1:ItK k ((s1.heap.push (itK k l)).push { cls:=.type "enumerate",data:=.fields #[.none,.bool false,.ref s1.heap.objs.size,rawInt 0,.none,.none] }) s1.heap.objs.size l 0:=(ItK.new k s1.heap l).at fun o e=>Qb _ e
 have kp:∀ c o,s1.heap.get? c=some o->((s1.heap.push (itK k l)).push { cls:=.type "enumerate",data:=.fields #[.none,.bool false,.ref s1.heap.objs.size,rawInt 0,.none,.none] }).get? c=some o:=fun c o e=>Qb _ (Qb _ e)
 generalize (s1.heap.push (itK k l)).push { cls:=.type "enumerate",data:=.fields #[.none,.bool false,.ref s1.heap.objs.size,rawInt 0,.none,.none] }=h2 at g1 g2 kp ⊢
 refine ⟨⟨_,g2,rfl⟩,wpAny_pyIter_enum g2 ?_⟩
 rw [n1] at *
 have I2:Inv X pins σ H1 { s1 with heap:=h2 }:=I1.kept (t':=s1.toks) kp
 refine ⟨s1.heap.objs.size+1,[s1.heap.objs.size+1,s1.heap.objs.size],_,_,H1,rfl,I2,aAn k l (s1.heap.objs.size+1) s1.heap.objs.size (Nat.succ_ne_self _),⟨⟨_,g2⟩,g1⟩,fun c hc=>?_,q⟩
 have hc':s1.heap.objs.size<=c:=by
  simp only [Ql,Ja,or_false] at hc
  rcases hc with r | r
  ·rw [r]; exact Xq _ _
  ·rw [r]; exact Qh _
 exact I1.fpOk hc' (I1.hok.fresh hc')
end
theorem aBp {K:PySem.W.Frag} {k:Sk} {a:Addr} {xs:List V} {g:TG} {tb:TS} {D:Ends} {σ:St} {H:Hp} (Pv:Nat->St->Hp->Prop) (h0:Pv 0 σ H) (hl:∀ i σ H,i<=xs.length->Pv i σ H->SqK k K H a xs)
  (hs:∀ i x p σ H,xs[i]?=some x->Pv i σ H->H p=none->g (.ref p) σ (upd H p (.tup [.int (i:Nat),x])) fun σ2 H2=>tb { D with nx:=Pv (i+1),ct:=Pv (i+1),bk:=D.nx } σ2 H2) (hd:∀ σ H,Pv xs.length σ H->D.nx σ H) :
  ∃ W:Nat->Nat->St->Hp->Prop,(∃ m,W 0 m σ H)/\∀ i m σ H,W i m σ H ->
   ((Ite K k a).stop i H/\D.nx σ H)∨((Ite K k a).go i H/\∃ N:St->Hp->Prop,(∀ σ' H',N σ' H'->∃ m',m' < m/\W (i+1) m' σ' H')/\∀ x H',(Ite K k a).yld i H x H'->g x σ H' fun σ2 H2=>tb { D with nx:=N,ct:=N,bk:=D.nx } σ2 H2):=by
 refine ⟨fun i m σ H=>m=xs.length - i/\i<=xs.length/\Pv i σ H,⟨xs.length,by simp,Jf _,h0⟩,?_⟩
 rintro i m σ H ⟨rfl,hi,p⟩
 have q:=hl i σ H hi p
 by_cases hlt:i < xs.length
 ·refine .inr ⟨⟨xs,xs[i],q,Qc hlt⟩,Pv (i+1),fun σ' H' p'=>⟨xs.length - (i+1),by omega,rfl,hlt,p'⟩,fun x H' y=>?_⟩
  obtain ⟨p1,hp1,rfl,y⟩:=y
  obtain ⟨v,hv,rfl⟩:=y xs q
  exact hs i v p1 σ H hv p hp1
 ·have e:i=xs.length:=by omega
  subst e
  exact .inl ⟨⟨xs,q,rfl⟩,hd σ H p⟩
theorem aD8 {n:Nat} (h:n<=1000):n<=sizeLine:=by rw [sizeLine_eq]; omega
section
variable {own:Nat} {fr:List Nat} {g:TG} {te:TE} {σ:St} {H:Hp} {Qf:Hp->List V->Prop} {K:PySem.W.Frag}
theorem aCH {vs:List V} {i:Nat} {v:V} (h:vs[i]?=some v):vs.take (i+1)=vs.take i++[v]:=by rw [Wp,h]; rfl
theorem yW {J:It} {n:Nat} {vs:List V} (SH:St->Prop) (hn:n<=1000) (hl:vs.length=n) (hσ:SH (blk own fr σ)) (hstop:∀ H',aC H H'->J.stop n H') (hgo:∀ i H',i < n->aC H H'->J.go i H')
  (hs:∀ i v x σ H1 H2,i < n->vs[i]?=some v->SH σ->aC H H1->J.yld i H1 x H2->∀ Q:V->St->Hp->Prop,(∀ σ2 H4,SH σ2->aC H1 H4->Q v σ2 H4)->g x σ H2 fun σ2 H3=>te σ2 H3 fun y H4=>Q y σ2 H4)
  (hd:∀ H',aC H H'->Qf H' vs) :
  ∃ W:Nat->Nat->List V->St->Hp->Prop,(∃ m,W 0 m [] (blk own fr σ) H)/\∀ i m ys σ' H,W i m ys σ' H ->
   (J.stop i H/\Qf H ys) ∨
   (J.go i H/\∃ N:List V->St->Hp->Prop,(∀ ys' σ2 H2,N ys' σ2 H2->∃ m',m' < m/\W (i+1) m' ys' σ2 H2) /\
    ∀ x H',J.yld i H x H'->g x σ' H' fun σ2 H2=>aBb σ2 H2 fun b H3=>if b=true then te σ2 H3 fun y H4=>ys.length < sizeLine/\N (ys++[y]) σ2 H4 else N ys σ2 H3):=by
 refine mO n (aD8 hn) SH (fun i ys H'=>ys=vs.take i/\aC H H') hσ ⟨rfl,aC.refl H⟩ (fun i ys H' p=>by rw [p.1,Jd]; omega) (fun ys H' p=>hstop H' p.2) (fun i ys H' hi p=>hgo i H' hi p.2) ?_ (fun ys H' p=>?_)
 ·rintro i ys σ' x H1 H2 hi sh ⟨rfl,s1⟩ hy hz
  have hv:vs[i]?=some vs[i]:=Qc (by omega)
  have h:=hs i vs[i] x σ' H1 H2 hi hv sh s1 hy (fun y σ2 H4=>(vs.take i).length < sizeLine/\SH σ2/\(vs.take i++[y]=vs.take (i+1)/\aC H H4)) fun σ2 H4 sh2 s4=>⟨hz,sh2,(aCH hv).symm,s1.trans s4⟩
  exact h
 ·obtain ⟨rfl,s1⟩:=p
  rw [Xe (by omega)]
  exact hd H' s1
theorem mR {a:Addr} {xs vs:List V} (SH:St->Prop) (hn:xs.length<=1000) (hl:vs.length=xs.length) (ha:SqL K H a xs) (hσ:SH (blk own fr σ))
  (hs:∀ (i:Nat) x v σ H1,xs[i]?=some x->vs[i]?=some v->SH σ->aC H H1->∀ Q:V->St->Hp->Prop,(∀ σ2 H4,SH σ2->aC H1 H4->Q v σ2 H4)->g x σ H1 fun σ2 H2=>te σ2 H2 fun y H4=>Q y σ2 H4)
  (hd:∀ H',aC H H'->Qf H' vs) :
  ∃ W:Nat->Nat->List V->St->Hp->Prop,(∃ m,W 0 m [] (blk own fr σ) H)/\∀ i m ys σ' H,W i m ys σ' H ->
   ((Itl K a).stop i H/\Qf H ys) ∨
   ((Itl K a).go i H/\∃ N:List V->St->Hp->Prop,(∀ ys' σ2 H2,N ys' σ2 H2->∃ m',m' < m/\W (i+1) m' ys' σ2 H2) /\
    ∀ x H',(Itl K a).yld i H x H'->g x σ' H' fun σ2 H2=>aBb σ2 H2 fun b H3=>if b=true then te σ2 H3 fun y H4=>ys.length < sizeLine/\N (ys++[y]) σ2 H4 else N ys σ2 H3):=by
 refine yW SH hn hl hσ (fun H' s=>⟨xs,s.seqL ha,Qh _⟩) (fun i H' hi s=>⟨xs,xs[i],s.seqL ha,Qc hi⟩) (fun i v x σ H1 H2 hi hv sh s y Q k=>?_) hd
 obtain ⟨e,y⟩:=y
 subst e
 exact hs i x v σ _ (y xs (s.seqL ha)) hv sh s Q k
theorem gO {a:Addr} {xs vs:List V} (SH:St->Prop) (hn:xs.length<=1000) (hl:vs.length=xs.length) (ha:SqT K H a xs) (hσ:SH (blk own fr σ))
  (hs:∀ (i:Nat) x v σ H1,xs[i]?=some x->vs[i]?=some v->SH σ->aC H H1->∀ Q:V->St->Hp->Prop,(∀ σ2 H4,SH σ2->aC H1 H4->Q v σ2 H4)->g x σ H1 fun σ2 H2=>te σ2 H2 fun y H4=>Q y σ2 H4)
  (hd:∀ H',aC H H'->Qf H' vs) :
  ∃ W:Nat->Nat->List V->St->Hp->Prop,(∃ m,W 0 m [] (blk own fr σ) H)/\∀ i m ys σ' H,W i m ys σ' H ->
   ((Itt K a).stop i H/\Qf H ys) ∨
   ((Itt K a).go i H/\∃ N:List V->St->Hp->Prop,(∀ ys' σ2 H2,N ys' σ2 H2->∃ m',m' < m/\W (i+1) m' ys' σ2 H2) /\
    ∀ x H',(Itt K a).yld i H x H'->g x σ' H' fun σ2 H2=>aBb σ2 H2 fun b H3=>if b=true then te σ2 H3 fun y H4=>ys.length < sizeLine/\N (ys++[y]) σ2 H4 else N ys σ2 H3):=by
 refine yW SH hn hl hσ (fun H' s=>⟨xs,s.seqT ha,Qh _⟩) (fun i H' hi s=>⟨xs,xs[i],s.seqT ha,Qc hi⟩) (fun i v x σ H1 H2 hi hv sh s y Q k=>?_) hd
 obtain ⟨e,y⟩:=y
 subst e
 exact hs i x v σ _ (y xs (s.seqT ha)) hv sh s Q k
end
section
variable {X:Cx} {st:Stmt} {iK:List Stmt} {t u:TS} {e:Expr} {te:TE} {tt:TT}
end
section
variable {X:Cx} {K:PySem.W.Frag}
theorem aCI (hK:X.K=K) (hu:X.A.units+64 < cLine):OpR X (compareOp .NotEq) (fun x y H Q=>∃ d e,Den K H d x/\Den K H e y/\cT d=true/\cT e=true/\SeqAt.shaped d=true/\SeqAt.shaped e=true/\Q (.bl (!PyData.eqv d e)) H):=by subst hK; exact jO hu
theorem pW (hK:X.K=K):IxR X (aEQ K):=by subst hK; exact dG
theorem hU (hK:X.K=K):OpR X (compareOp .NotIn) (rIn K true):=by subst hK; exact tM
end
theorem rT (xs:Array Value):slicePick xs none none (some (-1))=xs.toList.reverse.toArray:=by
 unfold slicePick
 have e1:sliceBounds none none (some (-1)) xs.size=((xs.size:Int) - 1,-1,-1):=by simp [sliceBounds]
 rw [e1,<- vQ xs]
 congr 1
 show List.filterMap (fun x=>xs[x]?) (sliceRange ((xs.size:Int) - 1) (-1) (-1))=_
 have e2:sliceRange ((xs.size:Int) - 1) (-1) (-1)=(List.range xs.size).map fun (k:Nat)=>((xs.size:Int) - 1+(k:Int)*(-1)).toNat:=by
  unfold sliceRange
  rw [if_neg (by decide)]
  have e3:(if (xs.size:Int) - 1 > -1 then ((xs.size:Int) - 1 - -1 - -1 - 1) / (- -1) else 0).toNat=xs.size:=by
   by_cases h0:xs.size=0
   ·rw [h0]; decide
   ·rw [if_pos (by omega),show (- -1:Int)=1 from rfl,Int.ediv_one]; omega
  show (List.range (if (xs.size:Int) - 1 > -1 then ((xs.size:Int) - 1 - -1 - -1 - 1) / (- -1) else 0).toNat).map _=_
  rw [e3]
  refine Zp fun k _=>?_
  congr 1
  omega
 rw [e2,Wv]
 rfl
section
variable {X:Cx}
def aEY (K:PySem.W.Frag) (te ts:TE):TE:=fun σ H Q=>te σ H fun x H1=>ts σ H1 fun y H2=>y=.int (-1)/\∃ a xs,x=.ref a/\SqL K H2 a xs/\∀ p,H2 p=none->Q (.ref p) (upd H2 p (.lst xs.reverse))
theorem aCJ {e st:Expr} {te ts:TE} {pos p2:Pos} (he:PE X e te) (hst:PE X st ts):PE X (.Subscript e (.Slice none none (some st) p2) pos) (aEY X.K te ts):=by
 intro pins s σ H Q I h
 refine Subscript_ (thn (he pins s σ H _ I h) fun v s1 hx9=>?_)
 obtain ⟨x,H1,I1,r1,q1⟩:=hx9
 refine wpAny_Slice ?_
 rw [evalPart_none]
 refine wpAny_pure ?_
 show wpAny _ _ (evalPart none X.env) _ _ s1
 rw [evalPart_none]
 refine wpAny_pure ?_
 show wpAny _ _ (evalPart (some st) X.env) _ _ s1
 rw [evalPart_some]
 refine thn (hst pins s1 σ H1 _ I1 q1) fun vst s3 hx9=>?_
 obtain ⟨y,H3,I3,r3,q3⟩:=hx9
 obtain ⟨rfl,a,xs,rfl,hx,q⟩:=q3
 obtain ⟨tk,rfl⟩:=r3
 cases r1
 have I4:Inv X pins σ H3 { s3 with heap:=s3.heap.push { cls:=.type "slice",data:=.fields #[.none,.none,.int (-1) tk] } }:=I3.kept (t':=s3.toks) fun b ob q=>Qb _ q
 obtain ⟨its,r,ht,hz⟩:=I4.list hx
 have hlen:=r.length
 have hg:wpAny (model X.prog X.w) X.A (getItem (.ref a) (.ref s3.heap.objs.size)) (EP X pins σ Q) X.xe { s3 with heap:=s3.heap.push { cls:=.type "slice",data:=.fields #[.none,.none,.int (-1) tk] } }:=by
  refine wpAny_getItem_list_slice ht.isList (Heap.IsSliceOf.new ..) .none .none (.int (-1) tk) (by decide) ?_ (by rw [Qj]; omega)
  rw [rT]
  refine ⟨.ref _,_,I4.laid (t':=s3.toks) (o:=.lst xs.reverse) (fun b ob q=>Qb _ q) (Qh _) ?_,rfl,q _ (I4.hok.fresh (Qh _))⟩
  exact ⟨by rw [Xp]; exact hz,its.reverse,0,r.reverse,Qn _ rfl⟩
 show wpAny (model X.prog X.w) X.A (subscriptTail e (.Slice none none (some st) p2) (.ref a) (.ref s3.heap.objs.size)) (EP X pins σ Q) X.xe { s3 with heap:=s3.heap.push { cls:=.type "slice",data:=.fields #[.none,.none,.int (-1) tk] } }
 exact tail_any (ops:=[.ref a,.ref s3.heap.objs.size]) ht.isList.typeIs slot_list_getitem.lookup hg (by with_unfolding_all rfl)
end
section
variable {K:PySem.W.Frag} {S:List Addr} {H H' H0:Hp} {E E':Hp->V->Prop} {σ:St} {te ta tb ts:TE} {t tr:TA} {tl th:TO}
instance {a:Addr} {xs:List V}:Mo (fun H v=>v=.ref a/\SqT K (Vw S H) a xs):=⟨fun e h=>⟨h.1,(Vw.same e).seqT h.2⟩⟩
end
section
variable {prog:Program} {w:World} {A:Around} {R:Result->Shared->Prop} {s:Shared} {elt tg iter tg2 iter2:Expr} {scope:Scope} {pos:Pos} {it acc:Value} {env:Env}
end
section
variable {X:Cx} {scope:Scope} {own frn:List Str} {fr:List Nat} {elt tg iter tg2 iter2:Expr} {pos:Pos} {wi wi2:TI} {g g2:TG} {te:TE}
end
section
variable {own:Nat} {fr:List Nat} {g g2:TG} {wi2:TI} {te:TE} {σ:St} {H:Hp} {Qf:Hp->List V->Prop} {K:PySem.W.Frag}
end
section
variable {X:Cx}
theorem aAp (bs:List Bool) (tr:Nat->Bool) (h:∀ i b,bs[i]?=some b->tr i=b):(List.range bs.length).any tr=bs.any id:=by
 rw [Jl,Ju,Ju]
 constructor
 ·rintro ⟨i,hi,q⟩
  have hi':=Jy.mp hi
  rw [h i _ (Qc hi')] at q
  exact ⟨_,Yf hi',q⟩
 ·rintro ⟨b,hb,q⟩
  obtain ⟨i,hi⟩:=Wm hb
  exact ⟨i,Jy.mpr (Qd.mp hi).1,by rw [h i b hi]; exact q⟩
theorem vV (hc:X.calm=true):eY X (.builtin "any") (fun xs H Q=>∃ (p:Addr) (bs:List Bool),xs = [.ref p]/\SqL X.K H p (bs.map V.bl)/\Q (.bl (bs.any id)) H):=by
 intro pins s σ H xs us Q I r h
 obtain ⟨p,bs,rfl,hx,q⟩:=h
 obtain ⟨u,rfl,rx⟩:=jR r
 cases rx
 obtain ⟨its,rv,pl,hz⟩:=I.list hx
 have hl:=rv.length
 rw [Qa] at hl
 have hlt:p < s.heap.objs.size:=by obtain ⟨o,n,e,_⟩:=pl; exact Qm e
 refine call_any_walk (wpAny_pyIter_list pl.isList ?_)
 refine ⟨s.heap.objs.size,_,_,_,_,_,fun i=>(bs[i]?).getD false,rfl,Walks.list (A:=X.A.in1) (I.ok.hd hc) s.heap.objs.size p (Jr hlt) its.toArray,⟨⟨_,Qn _ rfl,rfl,rfl⟩,pl.isList.push _⟩,?_,fun h' tk hk=>?_⟩
 ·intro i v s' Q' E' hP hQ'
  have hP':its[i]?=some v:=by simpa using hP
  have hi:i < bs.length:=by rw [hl]; exact (Qd.mp hP').1
  obtain ⟨w,hw,rw'⟩:=rv.get (i:=i) (x:=.bl bs[i]) (by rw [Qg,Qc hi]; rfl)
  rw [hw] at hP'
  cases hP'
  cases rw'
  have e:(bs[i]?).getD false=bs[i]:=by rw [Qc hi]; rfl
  rw [<- e]
  exact wpAny_truthy_bool hQ'
 ·have e:(List.range its.toArray.size).any (fun i=>(bs[i]?).getD false)=bs.any id:=by
   rw [Qj,<- hl]
   exact aAp bs _ fun i b hb=>by rw [hb]; rfl
  rw [e]
  refine ⟨.bl _,H,I.kept (h':=h') fun b o e=>hk b o ?_ (Qb _ e),rfl,q⟩
  intro z
  have z':b=s.heap.objs.size:=by simpa using z
  exact Qy _ (z' ▸ Qm e)
end
section
variable {κ:Type} [DecidableEq κ]
def bY (kvs:List (κ×V)) (k:κ):Option V:=(kvs.find? fun kv=>decide (kv.1=k)).map (·.2)
def eG (kvs:List (κ×V)) (k:κ) (v:V):List (κ×V) :=
 if (kvs.any fun kv=>decide (kv.1=k))=true then kvs.map (fun kv=>if kv.1=k then (kv.1,v) else kv) else kvs++[(k,v)]
def aDx (kvs:List (κ×V)) (k:κ):List (κ×V):=kvs.filter fun kv=>decide (kv.1≠k)
theorem aBq {k:κ}:bY ([]:List (κ×V)) k=none:=rfl
theorem eI {p:κ×V} {r:List (κ×V)} {k:κ} (e:p.1=k):bY (p::r) k=some p.2:=by simp [bY,Zf,e]
theorem eS {p:κ×V} {r:List (κ×V)} {k:κ} (e:¬ p.1=k):bY (p::r) k=bY r k:=by simp [bY,Zf,e]
theorem eT (k:κ):∀ kvs:List (κ×V),(kvs.any fun kv=>decide (kv.1=k))=(bY kvs k).isSome
 | []=>rfl
 | p::r=>by
  rw [Yi]
  by_cases e:p.1=k
  ·simp only [eI e,decide_eq_true e,Wg,Ww]
  ·rw [eS e,decide_eq_false e,Yj]; exact eT k r
theorem vW (k j:κ) (y:V):∀ kvs:List (κ×V),bY (kvs.map fun kv=>if kv.1=k then (kv.1,y) else kv) j=(bY kvs j).map fun x=>if j=k then y else x
 | []=>rfl
 | p::r=>by
  have ih:=vW k j y r
  rw [Jc]
  by_cases h:p.1=k
  ·rw [if_pos h]
   by_cases e:p.1=j
   ·rw [eI (p:=(p.1,y)) e,eI e,Xa,if_pos (e.symm.trans h)]
   ·rw [eS (p:=(p.1,y)) e,eS e,ih]
  ·rw [if_neg h]
   by_cases e:p.1=j
   ·rw [eI (p:=p) e,eI e,Xa,if_neg (fun z=>h (e.trans z))]
   ·rw [eS (p:=p) e,eS e,ih]
theorem nV (k j:κ) (y:V):∀ kvs:List (κ×V),bY kvs k=none->bY (kvs++[(k,y)]) j=if j=k then some y else bY kvs j
 | [],_=>by
  by_cases e:k=j
  ·rw [if_pos e.symm]; exact eI (p:=(k,y)) e
  ·rw [if_neg (fun z=>e z.symm)]; exact eS (p:=(k,y)) e
 | p::r,hn=>by
  rw [List.cons_append]
  have hk:¬ p.1=k:=fun z=>by rw [eI z] at hn; cases hn
  rw [eS hk] at hn
  have ih:=nV k j y r hn
  by_cases e:p.1=j
  ·rw [eI e,eI e,if_neg (fun z=>hk (e.trans z))]
  ·rw [eS e,eS e,ih]
theorem iW (kvs:List (κ×V)) (k j:κ) (y:V):bY (eG kvs k y) j=if j=k then some y else bY kvs j:=by
 unfold eG
 by_cases a:(kvs.any fun kv=>decide (kv.1=k))=true
 ·rw [if_pos a,vW]
  rw [eT] at a
  by_cases e:j=k
  ·obtain ⟨x,hx⟩:=Yx.mp a
   rw [if_pos e,e,hx,Xa,if_pos rfl]
  ·rw [if_neg e]
   cases bY kvs j with
   | none=>rfl
   | some x=>rw [Xa,if_neg e]
 ·rw [if_neg a]
  refine nV k j y kvs ?_
  rw [eT] at a
  cases q:bY kvs k with
  | none=>rfl
  | some x=>rw [q] at a; exact (a rfl).elim
theorem jG (kvs:List (κ×V)) (k:κ) (v:V):(eG kvs k v).length<=kvs.length+1:=by
 unfold eG
 split
 ·rw [Qa]; omega
 ·rw [Qv,Jh,List.length_nil]; omega
theorem vX {kvs:List (κ×V)} {k:κ} (v:V) (h:bY kvs k=none):eG kvs k v=kvs++[(k,v)]:=by
 unfold eG
 rw [eT,h]
 exact if_neg (by decide)
theorem oS.isSome_eq {o:Option V} {u:Option Value} (r:oS o u):o.isSome=u.isSome:=by
 cases o with
 | none => cases u with
   | none=>rfl
   | some _=>exact (show False from r).elim
 | some _ => cases u with
   | none=>exact (show False from r).elim
   | some _=>rfl
theorem oS.getD {o:Option V} {u:Option Value} {d:V} {d':Value} (r:oS o u) (rd:bI d d'):bI (o.getD d) (u.getD d'):=by
 cases o with
 | none => cases u with
   | none=>exact rd
   | some _=>exact (show False from r).elim
 | some _ => cases u with
   | none=>exact (show False from r).elim
   | some _=>exact r
theorem KV.val {kvs:List (κ×V)} {vs:List (κ×Value)} (r:KV kvs vs) (k:κ):oS (bY kvs k) (valueAt vs k):=by
 unfold KV at r
 induction r with
 | nil=>exact True.intro
 | @cons p q ps qs h t ih =>
  obtain ⟨h1,h2⟩:=h
  by_cases e:p.1=k
  ·have e':q.1=k:=h1.symm.trans e
   have b:valueAt (q::qs) k=some q.2:=by simp [valueAt,Zf,e']
   rw [eI e,b]; exact h2
  ·have e':¬ q.1=k:=fun z=>e (h1.trans z)
   have b:valueAt (q::qs) k=valueAt qs k:=by simp [valueAt,Zf,e']
   rw [eS e,b]; exact ih
theorem KV.any {kvs:List (κ×V)} {vs:List (κ×Value)} (r:KV kvs vs) (k:κ):(kvs.any fun kv=>decide (kv.1=k))=vs.any fun kv=>decide (kv.1=k):=by
 unfold KV at r
 induction r with
 | nil=>rfl
 | cons h t ih=>rw [Yi,Yi,ih,h.1]
theorem KV.repl {kvs:List (κ×V)} {vs:List (κ×Value)} (r:KV kvs vs) (k:κ) {y:V} {u:Value} (ry:bI y u) :
  KV (kvs.map fun kv=>if kv.1=k then (kv.1,y) else kv) (vs.map fun kv=>if kv.1=k then (kv.1,u) else kv):=by
 unfold KV at r ⊢
 induction r with
 | nil=>exact .nil
 | @cons p q ps qs h t ih =>
  rw [Jc,Jc]
  refine .cons ?_ ih
  obtain ⟨h1,h2⟩:=h
  by_cases e:p.1=k
  ·rw [if_pos e,if_pos (h1.symm.trans e)]; exact ⟨h1,ry⟩
  ·rw [if_neg e,if_neg (fun z=>e (h1.trans z))]; exact ⟨h1,h2⟩
theorem KV.put {kvs:List (κ×V)} {vs:List (κ×Value)} (r:KV kvs vs) (k:κ) {y:V} {u:Value} (ry:bI y u):KV (eG kvs k y) (stored vs k u):=by
 unfold eG stored
 rw [r.any k]
 by_cases e:(vs.any fun kv=>decide (kv.1=k))=true
 ·rw [if_pos e,if_pos e]; exact r.repl k ry
 ·rw [if_neg e,if_neg e]; exact Paired.snoc r ⟨rfl,ry⟩
theorem KV.drop {kvs:List (κ×V)} {vs:List (κ×Value)} (r:KV kvs vs) (k:κ):KV (aDx kvs k) (without vs k):=by
 unfold KV at r ⊢
 unfold aDx without
 induction r with
 | nil=>exact .nil
 | @cons p q ps qs h t ih =>
  obtain ⟨h1,h2⟩:=h
  rw [Qw,Qw]
  by_cases e:p.1=k
  ·have a:¬ decide (p.1≠k)=true:=by simp [e]
   have b:¬ decide (q.1≠k)=true:=by simp [h1.symm.trans e]
   rw [if_neg a,if_neg b]; exact ih
  ·have e':¬ q.1=k:=fun z=>e (h1.trans z)
   have a:decide (p.1≠k)=true:=by simp [e]
   have b:decide (q.1≠k)=true:=by simp [e']
   rw [if_pos a,if_pos b]; exact .cons ⟨h1,h2⟩ ih
theorem KV.keys {kvs:List (κ×V)} {vs:List (κ×Value)} (r:KV kvs vs):kvs.map (·.1)=vs.map (·.1):=by
 unfold KV at r
 induction r with
 | nil=>rfl
 | cons h t ih=>rw [Jc,Jc,ih,h.1]
theorem KV.length {kvs:List (κ×V)} {vs:List (κ×Value)} (r:KV kvs vs):kvs.length=vs.length:=Paired.length r
end
theorem pX {P:Program} {w:World} {k:Key} {u:Value} (r:bI (kV k) u):(bG P w).is k u=true:=by
 cases k with
 | inl i=>obtain ⟨t,e⟩:=(show ∃ t,u=Value.int i t from r); subst e; exact uX P w i t
 | inr x=>obtain ⟨t,e⟩:=(show ∃ t,u=Value.str x t from r); subst e; exact uY P w x t
theorem sS {P:Program} {w:World}:∀ {ks:List Key} {us:List Value},bF (ks.map kV) us->ItemsAre (bG P w) ks us
 | [],_,r=>by rw [Zt] at r; cases r; exact .nil
 | k::ks,_,r=>by
  rw [Jc] at r
  cases r with
  | cons h t=>exact .cons (pX h) (sS t)
abbrev KT (H:Hp):List (List Key×V)->List (List Key×Addr×Value)->Prop:=Paired fun p q=>p.1=q.1/\H q.2.1=some (.tup (p.1.map kV))/\bI p.2 q.2.2
theorem KT.val {H:Hp} {kvs:List (List Key×V)} {xs:List (List Key×Addr×Value)} (r:KT H kvs xs) (k:List Key):oS (bY kvs k) ((atKey xs k).map (·.2)):=by
 induction r with
 | nil=>exact True.intro
 | @cons p q ps qs h t ih =>
  obtain ⟨h1,_,h2⟩:=h
  by_cases e:p.1=k
  ·have e':q.1=k:=h1.symm.trans e
   have b:atKey (q::qs) k=some q.2:=by simp [atKey,Zf,e']
   rw [eI e,b]; exact h2
  ·have e':¬ q.1=k:=fun z=>e (h1.trans z)
   have b:atKey (q::qs) k=atKey qs k:=by simp [atKey,Zf,e']
   rw [eS e,b]; exact ih
theorem KT.repl {H:Hp} {kvs:List (List Key×V)} {xs:List (List Key×Addr×Value)} (r:KT H kvs xs) (k:List Key) {y:V} {u:Value} (ry:bI y u) :
  KT H (kvs.map fun kv=>if kv.1=k then (kv.1,y) else kv) (xs.map (putAt k u)):=by
 induction r with
 | nil=>exact .nil
 | @cons p q ps qs h t ih =>
  rw [Jc,Jc]
  refine .cons ?_ ih
  obtain ⟨h1,h2,h3⟩:=h
  unfold putAt
  by_cases e:p.1=k
  ·rw [if_pos e,if_pos (h1.symm.trans e)]; exact ⟨h1,h2,ry⟩
  ·rw [if_neg e,if_neg (fun z=>e (h1.trans z))]; exact ⟨h1,h2,h3⟩
theorem KT.put {H:Hp} {kvs:List (List Key×V)} {xs:List (List Key×Addr×Value)} (r:KT H kvs xs) (k:List Key) {b:Addr} {y:V} {u:Value} (hb:H b=some (.tup (k.map kV))) (ry:bI y u) :
  KT H (eG kvs k y) (storedH xs k b u):=by
 have e:(kvs.any fun kv=>decide (kv.1=k))=(atKey xs k).isSome:=by
  rw [eT,(r.val k).isSome_eq,Yz]
 unfold eG storedH
 rw [e]
 by_cases q:(atKey xs k).isSome=true
 ·rw [if_pos q,if_pos q]; exact r.repl k ry
 ·rw [if_neg q,if_neg q]; exact Paired.snoc r ⟨rfl,hb,ry⟩
theorem KT.keeps {H H':Hp} {kvs:List (List Key×V)} {xs:List (List Key×Addr×Value)} (r:KT H kvs xs) (ht:∀ b ys,H b=some (.tup ys)->H' b=some (.tup ys)):KT H' kvs xs :=
 Paired.mapP r fun _ _ z=>⟨z.1,ht _ _ z.2.1,z.2.2⟩
section
variable {P:Program} {w:World} {H:Hp} {h:Heap} {a:Addr}
theorem aDy {u:HO} (ok:HOk P w H h) (e:Rd H a u):cJ P w H h a u:=e.ok ok
theorem vY {kvs:List (Key×V)} (ok:HOk P w H h) (e:Rd H a (.dK kvs)):kvs.length<=sizeLine/\(a==sysModules)=false/\∃ vs,KV kvs vs/\h.DictOf (bG P w) a vs :=
 show cJ P w H h a (.dK kvs) from aDy ok e
theorem aEZ {kvs:List (Key×V)} (ok:HOk P w H h) (e:H a=some (.dK kvs)):kvs.length<=sizeLine/\(a==sysModules)=false/\∃ vs,KV kvs vs/\h.DictOf (bG P w) a vs:=vY ok (.inl e)
theorem tP {ks:List Key} (ok:HOk P w H h) (e:H a=some (.tup (ks.map kV))):(tupleKind (bG P w)).is h ks a:=by
 obtain ⟨_,its,n,r,e1⟩:=(show cJ P w H h a (.tup (ks.map kV)) from ok a _ e)
 exact ⟨_,its.toArray,n,e1,rfl,rfl,by simpa using sS r⟩
theorem yX {kvs:List (List Key×V)} (ok:HOk P w H h) (e:Rd H a (.dT kvs)):kvs.length<=sizeLine/\(a==sysModules)=false /\
  ∃ xs,KT H kvs xs/\h.DictOfH (tupleKind (bG P w)) a xs:=by
 obtain ⟨z,y,xs,r,o,es,ep,h1,h2,h3,h4,h5⟩:=(show cJ P w H h a (.dT kvs) from aDy ok e)
 refine ⟨z,y,xs,r,o,es,ep,h1,h2,h3,h4,fun x hx=>?_,h5⟩
 have all:∀ {l:List (List Key×V)} {m:List (List Key×Addr×Value)},KT H l m->∀ x∈m,(tupleKind (bG P w)).is h x.1 x.2.1:=by
  intro l m q
  induction q with
  | nil=>intro x hx; exact nomatch hx
  | @cons p q ps qs hq t ih =>
   intro x hx
   rcases Ql.mp hx with e | hx
   ·subst e
    exact tP ok (by rw [<- hq.1]; exact hq.2.1)
   ·exact ih x hx
 exact all r x hx
theorem aE0 {kvs:List (List Key×V)} (ok:HOk P w H h) (e:H a=some (.dT kvs)):kvs.length<=sizeLine/\(a==sysModules)=false /\
  ∃ xs,KT H kvs xs/\h.DictOfH (tupleKind (bG P w)) a xs:=yX ok (.inl e)
end
def pY (H:Hp) (a:Addr) (y:V) (r:Option V):Prop :=
 (∃ kvs k,Rd H a (.dK kvs)/\y=kV k/\r=bY kvs k)∨∃ kvs k b,Rd H a (.dT kvs)/\y=.ref b/\H b=some (.tup (k.map kV))/\r=bY kvs k
def pZ (H:Hp) (a:Addr) (y v:V) (H':Hp):Prop :=
 (∃ kvs k,H a=some (.dK kvs)/\y=kV k/\kvs.length < sizeLine/\H'=upd H a (.dK (eG kvs k v))) ∨
 ∃ kvs k b,H a=some (.dT kvs)/\y=.ref b/\H b=some (.tup (k.map kV))/\kvs.length < sizeLine/\H'=upd H a (.dT (eG kvs k v))
theorem pY.k {H:Hp} {a:Addr} {kvs:List (Key×V)} {k:Key} (e:H a=some (.dK kvs)):pY H a (kV k) (bY kvs k):=.inl ⟨kvs,k,.inl e,rfl,rfl⟩
theorem pY.t {H:Hp} {a b:Addr} {kvs:List (List Key×V)} {k:List Key} (e:H a=some (.dT kvs)) (eb:H b=some (.tup (k.map kV))):pY H a (.ref b) (bY kvs k):=.inr ⟨kvs,k,b,.inl e,rfl,eb,rfl⟩
theorem pZ.k {H:Hp} {a:Addr} {kvs:List (Key×V)} {k:Key} {v:V} (e:H a=some (.dK kvs)) (hl:kvs.length < sizeLine):pZ H a (kV k) v (upd H a (.dK (eG kvs k v))):=.inl ⟨kvs,k,e,rfl,hl,rfl⟩
theorem pZ.t {H:Hp} {a b:Addr} {kvs:List (List Key×V)} {k:List Key} {v:V} (e:H a=some (.dT kvs)) (eb:H b=some (.tup (k.map kV))) (hl:kvs.length < sizeLine) :
  pZ H a (.ref b) v (upd H a (.dT (eG kvs k v))):=.inr ⟨kvs,k,b,e,rfl,eb,hl,rfl⟩
section
variable {X:Cx} {pins:List (Addr×Obj)} {σ:St} {H:Hp} {s:Shared} {a:Addr} {y v:V} {u r:Value} {o:Option V} {A:Around} {E:Value->Shared->Prop}
theorem Inv.big (I:Inv X pins σ H s):sysModules < s.heap.objs.size:=by
 have h:mainGlobals < s.heap.objs.size:=(I.mod.glob.keeps I.bk).lt
 exact Nat.lt_trans (by decide) h
theorem sT {Q:Value->Shared->Prop} (hu:A.units+1 < cLine) (I:Inv X pins σ H s) (g:pY H a y (some v)) (ry:bI y u) (h:∀ w' s',Inv X pins σ H s'->bI v w'->Q w' s') :
  wpAny (model X.prog X.w) A (getItem (.ref a) u) Q E s:=by
 rcases g with ⟨kvs,k,e,ey,l⟩ | ⟨kvs,k,b,e,ey,eb,l⟩
 ·subst ey
  obtain ⟨z,hd,vs,rel,dd⟩:=vY I.hok e
  obtain ⟨w',hw,rw'⟩:=oS.some_of (v:=v) (o:=valueAt vs k) (by rw [l]; exact rel.val k)
  exact wpAny_getItem_of (pX ry) dd.mapOf hw (h w' _ (I.tok _) rw')
 ·subst ey
  cases (show u=Value.ref b from ry)
  obtain ⟨z,hd,xs,rel,dd⟩:=yX I.hok e
  obtain ⟨w',hw,rw'⟩:=oS.some_of (v:=v) (o:=(atKey xs k).map (·.2)) (by rw [l]; exact rel.val k)
  obtain ⟨p,hp,hp2⟩:=Jb.mp hw
  refine wpAny_getItem_heap (tupleKind_room_in1 hu) (tP I.hok eb) dd hp ?_
  rw [hp2]
  exact h w' _ (I.tok _) rw'
theorem aCK {Q:Value->Shared->Prop} (hu:A.units+1 < cLine) (I:Inv X pins σ H s) (g:pY H a y o) (ry:bI y u) (h:∀ s',Inv X pins σ H s'->Q (.bool (!o.isSome)) s') :
  wpAny (model X.prog X.w) A (compareOp .NotIn u (.ref a)) Q E s:=by
 rcases g with ⟨kvs,k,e,ey,l⟩ | ⟨kvs,k,b,e,ey,eb,l⟩
 ·subst ey
  obtain ⟨z,hd,vs,rel,dd⟩:=vY I.hok e
  refine wpAny_notIn_of (pX ry) hd dd.mapOf ?_
  rw [<- (rel.val k).isSome_eq,<- l]
  exact h _ (I.tok _)
 ·subst ey
  cases (show u=Value.ref b from ry)
  obtain ⟨z,hd,xs,rel,dd⟩:=yX I.hok e
  refine wpAny_notIn_heap (tupleKind_room_in1 hu) (tP I.hok eb) hd dd ?_
  have q:=(rel.val k).isSome_eq
  rw [Yz] at q
  rw [<- q,<- l]
  exact h _ (I.tok _)
theorem tQ {h':Heap} {t':Nat} {ob:HO} (I:Inv X pins σ H s) (mu:Mut (H a)) (hs:Heap.SameBut a s.heap h') (he:∃ q,h'.get? a=some q) (new:cJ X.prog X.w (upd H a ob) h' a ob) :
  Inv X pins σ (upd H a ob) { s with heap:=h',toks:=t' } :=
 I.write (x:=a) (e:=a) mu (.inl rfl) (fun b q hb z=>(hs.2 b hb).trans z) he new
theorem aBr {P:Program} {w:World} {H':Hp} {h':Heap} {kvs:List (Key×V)} {vs:List (Key×Value)} (z:kvs.length<=sizeLine) (hd:(a==sysModules)=false) (rel:KV kvs vs) (dd:h'.DictOf (bG P w) a vs) :
  cJ P w H' h' a (.dK kvs):=⟨z,hd,vs,rel,dd⟩
theorem sU {H':Hp} {Q:Unit->Shared->Prop} (hu:A.units+1 < cLine) (I:Inv X pins σ H s) (g:pZ H a y v H') (ry:bI y u) (rv:bI v r) (h:∀ s',Inv X pins σ H' s'->Q () s') :
  wpAny (model X.prog X.w) A (setItem (.ref a) u r) Q E s:=by
 rcases g with ⟨kvs,k,e,ey,l,eH⟩ | ⟨kvs,k,b,e,ey,eb,l,eH⟩
 ·subst ey eH
  obtain ⟨z,hd,vs,rel,dd⟩:=aEZ I.hok e
  have hz:vs.length<=sizeLine:=by rw [<- rel.length]; exact z
  have hl:(eG kvs k v).length<=sizeLine:=by have:=jG kvs k v; omega
  refine wpAny_setItem_pairs (hsz:=hz) (pX ry) dd fun h' dd' hs=>h _ ?_
  have he:∃ q,h'.get? a=some q:=let ⟨q,_,_,hq,_⟩:=dd'; ⟨q,hq⟩
  exact tQ I (by rw [e]; exact True.intro) hs he (aBr hl hd (rel.put k rv) dd')
 ·subst ey eH
  cases (show u=Value.ref b from ry)
  obtain ⟨z,hd,xs,rel,dd⟩:=aE0 I.hok e
  have hz:xs.length<=sizeLine:=by rw [<- Paired.length rel]; exact z
  have hl:(eG kvs k v).length<=sizeLine:=by have:=jG kvs k v; omega
  refine wpAny_setItem_heap (hsz:=hz) (tupleKind_room_in1 hu) (tP I.hok eb) dd fun h' dd' hs=>h _ ?_
  obtain ⟨q,es,ep,hq,h2,h3,h4,_,h5⟩:=dd'
  refine tQ I (by rw [e]; exact True.intro) hs ⟨q,hq⟩ ⟨hl,hd,_,(rel.put k eb rv).keeps fun c ys ec=>?_,q,es,ep,hq,h2,h3,h4,h5⟩
  rw [aG (aEq ec e (fun z=>nomatch z))]
  exact ec
end
section
variable {X:Cx} {pins:List (Addr×Obj)} {σ:St} {H:Hp} {s:Shared} {a:Addr} {kvs:List (Key×V)} {k:Key} {u:Value} {A:Around} {E:Value->Shared->Prop}
end
def aE1 (i:Expr):Prop:=∀ ov iv,subscripted i false ov iv=operate [ov,iv] (getItem ov iv)
theorem aCL {prog:Program} {w:World} {A:Around} {E:Value->Shared->Prop} {s:Shared} {env:Env} {value slice:Expr} {pos:Pos} {T id:String} {Q:Value->Shared->Prop}
  (hl:typeLookup (.type T) "__getitem__" = pure (some (.builtin id))) (hs:aE1 slice)
  (h:wpAny (model prog w) A (eval value env) (fun o s₁=>wpAny (model prog w) A (eval slice env) (fun i s₂=>s₂.TypeIs o T/\wpAny (model prog w) A (getItem o i) Q E s₂) E s₁) E s) :
  wpAny (model prog w) A (eval (.Subscript value slice pos) env) Q E s:=by
 refine Subscript_ (wpAny_mono h (fun o s₁ h₁=>wpAny_mono h₁ (fun i s₂ h₂=>?_) fun _ _ x=>x) fun _ _ x=>x)
 obtain ⟨hT,h₂⟩:=h₂
 unfold subscriptTail
 refine wpAny_bind ?_
 rw [getitemInPython_of_ne hT.not_modules]
 refine wpAny_bind (wpAny_specialOf hT hl ?_)
 have fin:wpAny (model prog w) A (subscripted slice false o i) (fun r s₃=>wpAny (model prog w) A (letTemporaryGo value o r >>= fun _=>pure r) Q E s₃) E s₂:=by
  rw [hs o i]
  exact wpAny_operating (wpAny_mono h₂ (fun r s₃ h₃=>wpAny_bind (wpAny_letTemporaryGo (wpAny_pure h₃))) fun _ _ x=>x)
 first
  | exact wpAny_pure (wpAny_bind fin)
  | exact wpAny_bind (wpAny_pure (wpAny_bind fin))
  | exact wpAny_bind fin
theorem vZ {X:Cx} {pins:List (Addr×Obj)} {σ:St} {H:Hp} {s:Shared} {a:Addr} {y:V} {o:Option V} (I:Inv X pins σ H s) (g:pY H a y o):s.TypeIs (.ref a) "dict" := by
 rcases g with ⟨kvs,k,e,_,_⟩ | ⟨kvs,k,b,e,_,_,_⟩
 ·obtain ⟨_,_,vs,_,dd⟩:=vY I.hok e
  exact dd.typeIs
 ·obtain ⟨_,_,xs,_,dd⟩:=yX I.hok e
  exact dd.typeIs
def aE2 (td ty:TE):TE:=fun σ H Q=>td σ H fun x H1=>ty σ H1 fun y H2=>∃ a v,x=.ref a/\pY H2 a y (some v)/\Q v H2
def aCM (ty td:TE):TE:=fun σ H Q=>ty σ H fun y H1=>td σ H1 fun x H2=>∃ a o,x=.ref a/\pY H2 a y o/\Q (.bl (!o.isSome)) H2
def aE3 (td ty tv:TE):TS:=fun D σ H=>tv σ H fun v H1=>td σ H1 fun x H2=>ty σ H2 fun y H3=>∃ a H4,x=.ref a/\pZ H3 a y v H4/\D.nx σ H4
def aE4 (td ty tv:TE) (rd:V->V->Hp->VK->Prop):TS:=fun D σ H=>td σ H fun x H1=>ty σ H1 fun y H2=>∃ a v,x=.ref a/\pY H2 a y (some v) /\
 tv σ H2 fun y2 H3=>rd v y2 H3 fun z H4=>∃ H5,pZ H4 a y z H5/\D.nx σ H5
section
variable {X:Cx} {o i e value:Expr} {pos pos' tpos:Pos} {td ty tv:TE}
theorem kF (hu:X.A.units+1 < cLine) (ho:PE X o td) (hi:PE X i ty) (hs:aE1 i):PE X (.Subscript o i pos) (aE2 td ty):=by
 intro pins s σ H Q I h
 refine aCL PySem.F.slot_dict_getitem.lookup hs (thn (ho pins s σ H _ I h) fun u s1 ⟨x,H1,I1,rx,q1⟩=>thn (hi pins s1 σ H1 _ I1 q1) fun iv s2 hx9=>?_)
 obtain ⟨y,H2,I2,ry,a,v,ex,g,q2⟩:=hx9
 subst ex
 obtain rfl:u=Value.ref a:=rx
 exact ⟨vZ I2 g,sT hu I2 g ry fun w' s3 I3 rw'=>⟨v,H2,I3,rw',q2⟩⟩
theorem aAq (hu:X.A.units+1 < cLine) (hi:PE X i ty) (ho:PE X o td):PC X .NotIn i o (aCM ty td):=by
 intro pins s σ H Q I h
 refine thn (hi pins s σ H _ I h) fun iv s1 ⟨y,H1,I1,ry,q1⟩=>thn (ho pins s1 σ H1 _ I1 q1) fun u s2 hx9=>?_
 obtain ⟨x,H2,I2,rx,a,ov,ex,g,q2⟩:=hx9
 subst ex
 obtain rfl:u=Value.ref a:=rx
 exact aCK hu I2 g ry fun s3 I3=>⟨.bl (!ov.isSome),H2,I3,rfl,q2⟩
theorem tR (hu:X.A.units+1 < cLine) (ho:PE X o td) (hi:PE X i ty) (hv:PE X value tv) (hs:swapsWith value (some (.Subscript o i pos')) pos.line X.env=pure false) :
  PS X (.Assign [.Subscript o i pos'] value pos) (aE3 td ty tv):=by
 intro pins s σ H D I h
 refine wpAny_Assign_Subscript (thn (hv pins s σ H _ I h) fun r s1 ⟨v,H1,I1,rv,q1⟩=>thn (ho pins s1 σ H1 _ I1 q1) fun u s2 ⟨x,H2,I2,rx,q2⟩=>thn (hi pins s2 σ H2 _ I2 q2) fun iv s3 hx9=>?_) hs
 obtain ⟨y,H3,I3,ry,a,H4,ex,g,q3⟩:=hx9
 subst ex
 obtain rfl:u=Value.ref a:=rx
 exact sU hu I3 g ry rv fun s4 I4=>⟨σ,H4,I4,q3⟩
theorem aCN {op:Operator} {rd:V->V->Hp->VK->Prop} (hu:X.A.units+1 < cLine) (ho:PE X o td) (hi:PE X i ty) (hv:PE X value tv) (hop:aEL X op rd)
  (ha:∀ ov iv new,augStore i ov iv new=(do holding [new,ov,iv] (setItem ov iv new); release [new,ov,iv] []; pure .next)):PS X (.AugAssign (.Subscript o i tpos) op value pos) (aE4 td ty tv rd):=by
 intro pins s σ H D I h
 refine wpAny_AugAssign_SubscriptAny (thn (ho pins s σ H _ I h) fun u s1 ⟨x,H1,I1,rx,q1⟩=>thn (hi pins s1 σ H1 _ I1 q1) fun iv s2 hx9=>?_) ha
 obtain ⟨y,H2,I2,ry,a,v,ex,g,q2⟩:=hx9
 subst ex
 obtain rfl:u=Value.ref a:=rx
 refine sT hu I2 g ry fun w' s3 I3 rw'=>thn (hv pins s3 σ H2 _ I3 q2) fun w2 s4 ⟨y2,H3,I4,ry2,q3⟩=>thn (hop pins s4 σ H3 v y2 w' w2 _ I4 rw' ry2 q3) fun w3 s5 hx9=>?_
 obtain ⟨z,H4,I5,rz,H5,g5,q4⟩:=hx9
 exact sU hu I5 g5 ry rz fun s6 I6=>⟨σ,H5,I6,q4⟩
end
theorem wA {P:Program} {w:World} {H:Hp} (h:Heap) (hb:sysModules < h.objs.size):cJ P w H (h.push { cls:=.type "dict",data:=.dict #[] }) h.objs.size (.dK []) :=
 ⟨Jf _,beq_eq_false_iff_ne.mpr (Ne.symm (Jr hb)),[],.nil,Heap.DictOf.new h⟩
def aD9:TE:=fun _ H Q=>∀ p,H p=none->Q (.ref p) (upd H p (.dK []))
section
variable {X:Cx} {pos:Pos}
theorem aBs:PE X (.Dict [] [] pos) aD9:=fun pins s σ H Q I h =>
 wpAny_Dict_empty ⟨.ref s.heap.objs.size,_,I.laid (a:=s.heap.objs.size) (o:=.dK []) (t':=s.toks) (fun _ _ q=>Qb _ q) (Qh _) (wA s.heap I.big),rfl,h _ (I.hok.fresh (Qh _))⟩
end
def NF (H0:Hp) (a:Addr):Prop:=∀ o u,H0 a≠some (.frz o u)
section
variable {X:Cx} {pins:List (Addr×Obj)} {σ:St} {H:Hp} {s:Shared} {a:Addr}
theorem Inv.freeze {kvs:List (Key×V)} {o:Obj} (I:Inv X pins σ H s) (e:H a=some (.dK kvs)) (ho:s.heap.get? a=some o):Inv X pins σ (upd H a (.frz o (.dK kvs))) s:=by
 have m:Mut (H a):=by rw [e]; trivial
 have q:cJ X.prog X.w H s.heap a (.dK kvs):=I.hok a _ e
 exact I.write (x:=a) (e:=a) (t':=s.toks) m (.inl rfl) (fun b u _ z=>z) ⟨o,ho⟩ ⟨ho,q⟩
theorem Inv.nf {kvs:List (Key×V)} (I:Inv X pins σ H s) (e:H a=some (.dK kvs)):NF X.H₀ a:=fun o u z=>by
 have:=I.base.frzs a o u z
 rw [e] at this; cases this
theorem Inv.thaw {kvs:List (Key×V)} {o:Obj} (I:Inv X pins σ H s) (e:H a=some (.frz o (.dK kvs))) (nf:NF X.H₀ a):Inv X pins σ (upd H a (.dK kvs)) s:=by
 have ne:∀ b,H b=none->b≠a:=fun b n z=>by rw [z,e] at n; cases n
 have nt:∀ b xs,H b=some (.tup xs)->b≠a:=fun b xs n z=>by rw [z,e] at n; cases n
 have no:∀ b x,H b=some (.own x)->b≠a:=fun b xs n z=>by rw [z,e] at n; cases n
 obtain ⟨ho,q⟩:s.heap.get? a=some o/\cJ X.prog X.w H s.heap a (.dK kvs):=I.hok a _ e
 have un:Un X.fs X.ex X.H₀ (upd H a (.dK kvs)) X.s₀.heap s.heap:=by
  refine ⟨I.base.keep,I.base.slot,fun b ob q n hx=>?_,I.base.there,fun b xs q=>?_,fun b ob u q=>?_,fun b ps q=>?_⟩
  ·have z:=I.base.free b ob q n hx
   rw [aG (ne b z)]; exact z
  ·have z:=I.base.tups b xs q
   rw [aG (nt b xs z)]; exact z
  ·have z:=I.base.frzs b ob u q
   have n:b≠a:=fun y=>nf ob u (y ▸ q)
   rw [aG n]; exact z
  ·obtain ⟨m,z⟩:=I.base.tbls b ps q
   have n:b≠a:=fun y=>by rw [y,e] at z; cases z
   exact ⟨m,by rw [aG n]; exact z⟩
 refine ⟨I.ok,I.os,I.bare,un,I.loc,I.cell,?_,fun x c h=>?_,fun p hp=>?_,fun b u h=>?_,I.len⟩
 ·rw [aG (ne _ I.free)]; exact I.free
 ·have z:=I.freeC x c h
  rw [aG (ne _ z)]; exact z
 ·obtain ⟨p1,p2,p3⟩:=I.pin p hp
  exact ⟨p1,by rw [aG (ne _ p2)]; exact p2,p3⟩
 ·by_cases hb:b=a
  ·subst hb
   rw [aB] at h
   cases h
   exact cJ.stay q (fun _ _ _ z=>z) (fun c z=>by rw [aG (no c _ z)]; exact z) (fun c xs z=>by rw [aG (nt c xs z)]; exact z)
  ·rw [aG hb] at h
   exact cJ.stay (I.hok b u h) (fun _ _ _ z=>z) (fun c z=>by rw [aG (no c _ z)]; exact z) (fun c xs z=>by rw [aG (nt c xs z)]; exact z)
end
def Itd (a:Addr) (o:Obj) (kvs:List (Key×V)):It :=
 ⟨fun i H=>H a=some (.frz o (.dK kvs))/\i < kvs.length,fun i H x H'=>H'=H/\∃ p,kvs[i]?=some p/\x=kV p.1,fun i H=>H a=some (.frz o (.dK kvs))/\i=kvs.length⟩
theorem aBt {P:Program} {w:World} {k:Key} {u:Value} (h:(bG P w).is k u=true):bI (kV k) u:=by
 rcases cQ h with ⟨i,t,rfl,rfl⟩ | ⟨x,t,rfl,rfl⟩
 ·exact ⟨t,rfl⟩
 ·exact ⟨t,rfl⟩
theorem nW {P:Program} {w:World} {h:Heap} {a:Addr} {o:Obj} {es:Array DictEntry} {ep:Nat} {vs:List (Key×Value)} (ho:h.get? a=some o) (hd:o.data=.dict es ep) (d:h.DictOf (bG P w) a vs):h.DictAt (bG P w) a vs ep:=by
 obtain ⟨o',es',ep',q1,q2,q3,r⟩:=d
 rw [ho] at q1; cases q1
 rw [hd] at q3; cases q3
 exact ⟨o,es,ho,q2,hd,r⟩
theorem aAr {P:Program} {w:World} {K:PySem.W.Frag} {tg:Expr} (a it:Addr) (o:Obj) (es:Array DictEntry) (ep:Nat) (hd:o.data=.dict es ep) (kvs:List (Key×V)) :
  Turn P w K tg (Itd a o kvs) [it] it (fun i h=>h.IsKeyIter it a i kvs.length ep) where
 mem:=by simp
 obj:=fun i h st b hb=>by
  have e:b=it:=by simpa using hb
  subst e
  obtain ⟨o,e,c,d⟩:=st
  exact ⟨o,e,fun v z=>by rw [d] at z; cases z⟩
 keep:=fun i h h' st k=>st.at fun o e=>k it (by simp) o e
 item:=by
  intro X hP hw hK hc i pins s σ H E I hf st hg
  subst hP hw hK
  obtain ⟨hA,hi⟩:=hg
  obtain ⟨ho,hz,hs,vs,kv,dd⟩:s.heap.get? a=some o/\cJ X.prog X.w H s.heap a (.dK kvs):=I.hok a _ hA
  have da:=nW ho hd dd
  have hl:kvs.length=vs.length:=kv.length
  obtain ⟨f0,f1,f2,f3,f4,f5⟩:=hf it (by simp)
  obtain ⟨⟨k,x⟩,hx⟩:∃ p,vs[i]?=some p:=⟨vs[i]'(by omega),by simp⟩
  rw [hl] at st
  refine wpAny_pyNext_dict_item st da hx fun key h' hkey st' sb=>?_
  have I1:Inv X pins σ H { s with heap:=h' }:=I.turned (t':=s.toks) (fun b o hb e=>(sb.2 b hb).trans e) f0 f1 f3 f4 f5
  obtain ⟨o',e',c',d'⟩:=id st'
  have hk:kvs[i]?=some (kvs[i]):=Qc hi
  have hkk:(kvs[i]).1=k:=by
   have e:=kv.keys
   have e1:(kvs.map (·.1))[i]?=some (kvs[i]).1:=by rw [Qg,hk]; rfl
   have e2:(vs.map (·.1))[i]?=some k:=by rw [Qg,hx]; rfl
   rw [e,e2] at e1
   exact (Option.some.inj e1).symm
  rw [<- hl] at st'
  exact ⟨key,rfl,yH (s:={ s with heap:=h' }) e' c' d' (by decide) ⟨kV k,H,I1,aBt hkey,⟨rfl,_,hk,by rw [hkk]⟩,st',fun b hb=>(hf b hb).1⟩⟩
 done:=by
  intro X hP hw hK hc i pins s σ H E I hf st hg
  subst hP hw hK
  obtain ⟨hA,hi⟩:=hg
  obtain ⟨ho,hz,hs,vs,kv,dd⟩:s.heap.get? a=some o/\cJ X.prog X.w H s.heap a (.dK kvs):=I.hok a _ hA
  have da:=nW ho hd dd
  have hl:kvs.length=vs.length:=kv.length
  obtain ⟨f0,f1,f2,f3,f4,f5⟩:=hf it (by simp)
  rw [hl] at st
  exact wpAny_pyNext_dict_end (I.ok.hd hc) st da (by simp; omega) fun h' eb=>⟨rfl,I.turned (t':=s.toks) (fun b o hb e=>eb b o hb e) f0 f1 f3 f4 f5⟩
 self:=fun _ _ _ _ _ st h=>wpAny_pyIter_keyiter st h
section
variable {X:Cx} {tg:Expr}
def aE5 (H0:Hp) (td:TE):TI:=fun σ H R=>td σ H fun x H1=>∃ a kvs,x=.ref a/\H1 a=some (.dK kvs)/\∀ o,NF H0 a->R (Itd a o kvs) (upd H1 a (.frz o (.dK kvs)))
theorem tS {d:Expr} {td:TE} (hl:PE X d td):PI X tg d (aE5 X.H₀ td):=by
 intro pins s σ H R I h
 refine thn (hl pins s σ H _ I h) fun v s1 hx9=>?_
 obtain ⟨x,H1,I1,r1,q1⟩:=hx9
 obtain ⟨a,kvs,e,hq,q⟩:=q1
 subst e
 cases r1
 obtain ⟨hz,hs,vs,kv,dd⟩:cJ X.prog X.w H1 s1.heap a (.dK kvs):=I1.hok a _ hq
 obtain ⟨o,es,ep,ho,oe,hd,r⟩:=id dd
 have da:=nW ho hd dd
 refine wpAny_pyIter_dict hs da ?_
 have I2:=(I1.freeze hq ho).kept (h':=s1.heap.push { cls:=.type "dict_keyiterator",data:=.fields #[.ref a,.int 0 0,.int vs.length 0,.int ep 0] }) (t':=s1.toks) fun b o e=>Qb _ e
 have nA:a≠s1.heap.objs.size:=Jr (Qm ho)
 refine ⟨s1.heap.objs.size,[s1.heap.objs.size],_,_,_,rfl,I2,aAr a _ o es ep hd kvs,?_,fun b hb=>?_,q o (I1.nf hq)⟩
 ·refine ⟨_,Qn _ rfl,rfl,?_⟩
  rw [kv.length]; rfl
 ·have e:b=s1.heap.objs.size:=by simpa using hb
  subst e
  exact I1.fpOk (Qh _) (by rw [aG (Ne.symm nA)]; exact I1.hok.fresh (Qh _))
def aE6 (H0:Hp) (t:TS):TS:=fun D σ H=>t { D with nx:=fun σ' H'=>∃ a o kvs,H' a=some (.frz o (.dK kvs))/\NF H0 a/\D.nx σ' (upd H' a (.dK kvs)) } σ H
theorem yY {st:Stmt} {t:TS} (h:PS X st t):PS X st (aE6 X.H₀ t):=by
 intro pins s σ H D I q
 refine thn (h pins s σ H _ I q) fun f s1 z=>?_
 cases f with
 | next =>
  obtain ⟨σ',H',I',a,o,kvs,e,nf,k⟩:=z
  exact ⟨σ',_,I'.thaw e nf,k⟩
 | brk=>exact z
 | cont=>exact z
 | ret u=>exact z
end
theorem wB {a:Addr} {o:Obj} {kvs:List (Key×V)} {g:TG} {tb:TS} {D:Ends} {σ:St} {H:Hp} (Pv:Nat->St->Hp->Prop) (h0:Pv 0 σ H) (hl:∀ i σ H,i<=kvs.length->Pv i σ H->H a=some (.frz o (.dK kvs)))
  (hs:∀ i p σ H,kvs[i]?=some p->Pv i σ H->g (kV p.1) σ H fun σ2 H2=>tb { D with nx:=Pv (i+1),ct:=Pv (i+1),bk:=D.nx } σ2 H2) (hd:∀ σ H,Pv kvs.length σ H->D.nx σ H) :
  ∃ W:Nat->Nat->St->Hp->Prop,(∃ m,W 0 m σ H)/\∀ i m σ H,W i m σ H ->
   ((Itd a o kvs).stop i H/\D.nx σ H)∨((Itd a o kvs).go i H/\∃ N:St->Hp->Prop,(∀ σ' H',N σ' H'->∃ m',m' < m/\W (i+1) m' σ' H')/\∀ x H',(Itd a o kvs).yld i H x H'->g x σ H' fun σ2 H2=>tb { D with nx:=N,ct:=N,bk:=D.nx } σ2 H2):=by
 refine ⟨fun i m σ H=>m=kvs.length - i/\i<=kvs.length/\Pv i σ H,⟨kvs.length,by simp,Jf _,h0⟩,?_⟩
 rintro i m σ H ⟨rfl,hi,p⟩
 have q:=hl i σ H hi p
 by_cases hlt:i < kvs.length
 ·refine .inr ⟨⟨q,hlt⟩,Pv (i+1),fun σ' H' p'=>⟨kvs.length - (i+1),by omega,rfl,hlt,p'⟩,fun x H' y=>?_⟩
  obtain ⟨rfl,v,hv,rfl⟩:=y
  exact hs i v σ H' hv p
 ·have e:i=kvs.length:=by omega
  subst e
  exact .inl ⟨⟨q,rfl⟩,hd σ H p⟩
def aEa (tk tv:TE):TE:=fun σ H Q=>∀ p,H p=none->tk σ (upd H p (.dK [])) fun x H1=>tv σ H1 fun y H2=>∃ k,x=kV k/\H2 p=some (.dK [])/\Q (.ref p) (upd H2 p (.dK [(k,y)]))
section
variable {X:Cx} {pos:Pos} {ek ev:Expr} {tk tv:TE}
theorem wC (hk:PE X ek tk) (hv:PE X ev tv) (he:evalEachOpt [some ek] X.env = [some (eval ek X.env)]:=by rfl) (he2:evalEach [ev] X.env = [eval ev X.env]:=by rfl):PE X (.Dict [some ek] [ev] pos) (aEa tk tv):=by
 intro pins s σ H Q I h
 have I0:Inv X pins σ (upd H s.heap.objs.size (.dK [])) { s with heap:=s.heap.push { cls:=.type "dict",data:=.dict #[] } }:=I.laid (a:=s.heap.objs.size) (o:=.dK []) (t':=s.toks) (fun _ _ q=>Qb _ q) (Qh _) (wA s.heap I.big)
 have h0:=h s.heap.objs.size (I.hok.fresh (Qh _))
 refine wpAny_Dict_pairs (knd:=bG X.prog X.w) (pairs:=[(eval ek X.env,do let x<-eval ev X.env; standAt pos; pure x)]) (by rw [he,he2]; rfl) (by simp) (by simp) ?_
 refine evalPairs_cons (thn (hk pins _ σ _ _ I0 h0) fun kv s1 hx9=>?_)
 obtain ⟨x,H1,I1,r1,q1⟩:=hx9
 refine wpAny_bind (thn (hv pins _ σ _ _ I1 q1) fun vv s2 hx9=>?_)
 obtain ⟨y,H2,I2,r2,q2⟩:=hx9
 refine wpAny_bind (wpAny_standAt (wpAny_pure (evalPairs_nil ?_)))
 obtain ⟨k,rfl,hp,q⟩:=q2
 obtain ⟨hz,hs,vs,kv',dd⟩:cJ X.prog X.w H2 s2.heap s.heap.objs.size (.dK []):=I2.hok _ _ hp
 have ev0:vs = []:=by
  have:=kv'.length
  exact Za.mp this.symm
 subst ev0
 refine ⟨[(k,vv)],⟨pX r1,rfl,trivial⟩,dd,fun h' dd' sb=>?_⟩
 have em:merged ([]:List (Key×Value)) [(k,vv)] = [(k,vv)]:=by simp [merged,stored]
 rw [em] at dd'
 obtain ⟨o',es',ep',ho',_⟩:=id dd'
 have mu:Mut (H2 s.heap.objs.size):=by rw [hp]; trivial
 refine ⟨.ref s.heap.objs.size,_,tQ (t':=s2.toks+1) I2 mu sb ⟨_,ho'⟩ (aBr (kvs:=[(k,y)]) (by simp [sizeLine_eq]) hs (.cons ⟨rfl,r2⟩ .nil) dd'),rfl,q⟩
end
section
variable {prog:Program} {w:World} {A:Around} {E:Value->Shared->Prop} {s:Shared}
def nX (h:Heap) (u:Value) (i:Int) (v:Value):Prop:=∃ p,u=.ref p/\((∃ its:Array Value,h.IsTuple p its/\0<=i/\i < 1000/\its[i.toNat]?=some v)∨∃ its:Array Value,h.IsList p its/\0<=i/\i < 1000/\its[i.toNat]?=some v)
theorem nX.keeps {h h':Heap} {u:Value} {i:Int} {v:Value} (x:nX h u i v) (k:∀ b o,h.get? b=some o->h'.get? b=some o):nX h' u i v:=by
 obtain ⟨p,rfl,⟨its,⟨o,ho,r⟩,q⟩ | ⟨its,⟨o,ho,r⟩,q⟩⟩:=x
 ·exact ⟨p,rfl,.inl ⟨its,⟨o,k _ _ ho,r⟩,q⟩⟩
 ·exact ⟨p,rfl,.inr ⟨its,⟨o,k _ _ ho,r⟩,q⟩⟩
theorem tT {i:Int} {n:Nat} (h0:0<=i) (h1:i.toNat < n):seqIndex? i n=some i.toNat:=by
 unfold seqIndex?
 have e:¬ (i < 0):=by omega
 simp only [e,if_false]
 have e2:(decide (0<=i) && decide (i < (n:Int)))=true:=by simp; omega
 rw [if_pos e2]
section
variable {R:Result->Shared->Prop} {I:Addr} {fp wr:List Addr} {n:Nat} {Pv:Nat->Value->Prop} {St:Nat->Heap->Prop} {f:Addr} {kf:Nat->Int} {L:List (Addr×Obj)}
end
end
structure Lm (K:PySem.W.Frag) (mg:Str->Option Value) (base:Heap) (c P:Addr):Prop where
 hd:PySem.W.codeHdIn K c P=true
 gP:mainGlobals≠P
 bu:base.BuiltinsAt mg P
section
variable {X:Cx} {pins:List (Addr×Obj)} {σ:St} {H:Hp} {s:Shared} {c P c':Addr} {q:Str} {ps:Array Value} {h':Heap} {t':Nat}
end
section
variable {X:Cx} {pins:List (Addr×Obj)} {σ:St} {H:Hp} {s:Shared}
theorem nX.obj {h:Heap} {u:Value} {i:Int} {v:Value} (x:nX h u i v):∃ p o,u=.ref p/\h.get? p=some o/\∀ h':Heap,h'.get? p=some o->nX h' u i v:=by
 obtain ⟨p,rfl,⟨its,⟨o,ho,r⟩,q⟩ | ⟨its,⟨o,ho,r⟩,q⟩⟩:=x
 ·exact ⟨p,o,rfl,ho,fun h' e=>⟨p,rfl,.inl ⟨its,⟨o,e,r⟩,q⟩⟩⟩
 ·exact ⟨p,o,rfl,ho,fun h' e=>⟨p,rfl,.inr ⟨its,⟨o,e,r⟩,q⟩⟩⟩
end
section
variable {P:Program} {w:World} {K:PySem.W.Frag} {mg:Str->Option Value} {base:Heap}
end
abbrev gF (h:Heap) (z TI TO:Addr) (f0:Value) (f1:Bool):Prop :=
 h.get? z=some { cls:=.type "zip",dict:=none,data:=.fields #[f0,.bool f1,.bool false,.ref TI,.ref TO],slots:=#[] }
def F0 (f:Value):Prop:=f=.none∨∃ a t,f=.int a t
theorem wD {M:Model} {A:Around} {E:Value->Shared->Prop} {s:Shared} {a:Addr} {Q:Option Obj->Shared->Prop} (h:Q (s.heap.get? a) s):wpAny M A (loadIfAlive a) Q E s:=fun Γ p _=>by
 show Sem.wp M Γ (.loadIfAlive a .pure) _ _ p s
 rw [Sem.wp_loadIfAlive]
 exact (Sem.wp_pure ..).mpr h
section
variable {prog:Program} {w:World} {A:Around} {E:Value->Shared->Prop} {s:Shared} {z TI TO i1 i2 l1 l2:Addr} {n1 n2:Nat} {P1 P2:Nat->Value->Prop} {st1 st2:Nat->Heap->Prop}
theorem aBu {f0:Value} {f1:Bool} {Q:Bool->Shared->Prop} (hz:gF s.heap z TI TO f0 f1) (hf:F0 f0) (h1:Q true s) (h2:∀ h' b,gF h' z TI TO f0 b->Heap.SameBut z s.heap h'->Q false { s with heap:=h' }) :
  wpAny (model prog w) A (Builtin.SmallTypes.ownedTupleIsFree (.ref z)) Q E s:=by
 unfold Builtin.SmallTypes.ownedTupleIsFree
 rcases hf with rfl | ⟨a,t,rfl⟩
 ·exact wpAny_bind (wpAny_field hz rfl (x:=.none) rfl (wpAny_pure h1))
 ·refine wpAny_bind (wpAny_field hz rfl (x:=.int a t) rfl ?_)
  show wpAny (model prog w) A (loadIfAlive a.toNat >>= _) Q E s
  refine wpAny_bind (wD ?_)
  cases hq:s.heap.get? a.toNat with
  | none=>exact wpAny_pure h1
  | some o =>
   show wpAny (model prog w) A (field (.ref z) 1 >>= _) Q E s
   refine wpAny_bind (wpAny_field hz rfl (x:=.bool f1) rfl ?_)
   cases f1 with
   | true=>exact wpAny_pure (h2 s.heap true hz (Heap.SameBut.refl _ _))
   | false =>
    show wpAny (model prog w) A (setField (.ref z) 1 (.bool true) >>= _) Q E s
    refine wpAny_bind (wpAny_setField_rec hz (by simp) fun g hg b=>wpAny_pure (h2 g true hg b))
theorem aBv {k:Nat} {a b f0:Value} {f1:Bool} {Q:Value->Shared->Prop} (D:ZipApart z TI TO i1 i2 l1 l2) (S1:Sub prog w i1 l1 n1 P1 st1) (S2:Sub prog w i2 l2 n2 P2 st2)
  (hz:gF s.heap z TI TO f0 f1) (hf:F0 f0) (hTI:IsPair s.heap TI (.ref i1) (.ref i2)) (hTO:IsPair s.heap TO a b) (h1:st1 k s.heap) (h2:st2 k s.heap) (k1:k < n1) (k2:k < n2)
  (hQ:∀ h' x y f0' f1',P1 k x->P2 k y->F0 f0'->gF h' z TI TO f0' f1'->(∃ a b,IsPair h' TO a b)->st1 (k+1) h'->st2 (k+1) h'->IsPair h' s.heap.objs.size x y->h'.objs.size=s.heap.objs.size+1 ->
   (∀ c o,c≠z->c≠TO->c≠i1->c≠i2->s.heap.get? c=some o->h'.get? c=some o)->Q (.ref s.heap.objs.size) { s with heap:=h' }) :
  wpAny (model prog w) A (Builtin.«zip.__next__» ⟨[.ref z],[]⟩) (fun fin s'=>∃ v,fin=.done (.ret v)/\Q v s') E s:=by
 refine wpAny_bind (m:=field (.ref z) 2) (wpAny_field hz rfl (x:=.bool false) rfl ?_)
 refine wpAny_bind (m:=field (.ref z) 3) (wpAny_field hz rfl (x:=.ref TI) rfl ?_)
 refine wpAny_bind (wpAny_seqItems hTI rfl ?_)
 refine wpAny_bind (m:=Builtin.SmallTypes.ownedTupleIsFree (.ref z)) (aBu hz hf ?_ fun h0 fb hz0 b0=>?_)
 ·simp only [if_true]
  refine wpAny_bind (wpAny_rule ?_)
  refine wpAny_bind (wpAny_field hz rfl (x:=.ref TO) rfl ?_)
  refine wpAny_bind (wpAny_setField_rec hz (by simp) fun g1 hz1 b1=>?_)
  have hz1':gF g1 z TI TO .ellipsis f1:=hz1
  refine wpAny_bind ?_
  simp only [Yg,Ym,Xw,Zc]
  have s1:st1 k g1:=S1.keep _ _ _ h1 fun c hc o e=>b1.extBut c o (by rcases hc with r | r <;> rw [r]; exact D.i1z; exact D.l1z) e
  refine wpAny_bind (wpAny_bind (wpAny_onRaise ?_))
  refine wpAny_bind (m:=Builtin.SmallTypes.nextOf (.ref i1)) (S1.item _ k _ _ _ k1 s1 fun x g2 px t1 b2=>wpAny_pure ?_)
  have o2:IsPair g2 TO a b:=b2.extBut _ _ D.TOi1 (b1.extBut _ _ D.TOz hTO)
  refine wpAny_bind (wpAny_seqItems o2 rfl ?_)
  refine wpAny_bind (wpAny_updateSeq_pair o2 fun g3 o3 b3=>?_)
  have o3':IsPair g3 TO x b:=o3
  refine wpAny_bind (wpAny_letGo (wpAny_pure ?_))
  have s2:st2 k g3:=S2.keep _ _ _ h2 fun c hc o e=>by
   rcases hc with r | r
   ·rw [r] at e ⊢; exact b3.extBut _ _ D.TOi2.symm (b2.extBut _ _ D.i12.symm (b1.extBut _ _ D.i2z e))
   ·rw [r] at e ⊢; exact b3.extBut _ _ D.l2TO (b2.extBut _ _ D.l2i1 (b1.extBut _ _ D.l2z e))
  refine wpAny_bind (wpAny_bind (wpAny_onRaise ?_))
  refine wpAny_bind (m:=Builtin.SmallTypes.nextOf (.ref i2)) (S2.item _ k _ _ _ k2 s2 fun y g4 py t2 b4=>wpAny_pure ?_)
  have o4:IsPair g4 TO x b:=b4.extBut _ _ D.TOi2 o3'
  refine wpAny_bind (wpAny_seqItems o4 rfl ?_)
  refine wpAny_bind (wpAny_updateSeq_pair o4 fun g5 o5 b5=>?_)
  have o5':IsPair g5 TO x y:=o5
  refine wpAny_bind (wpAny_letGo (wpAny_pure (wpAny_pure ?_)))
  refine wpAny_bind (wpAny_seqItems o5' rfl ?_)
  refine wpAny_bind (wpAny_newTuple ?_)
  have sz:g5.objs.size=s.heap.objs.size:=by rw [b5.1,b4.1,b3.1,b2.1,b1.1]
  have z5:gF g5 z TI TO .ellipsis f1:=b5.extBut _ _ D.TOz.symm (b4.extBut _ _ D.i2z.symm (b3.extBut _ _ D.TOz.symm (b2.extBut _ _ D.i1z.symm hz1')))
  have kp5:∀ c o,c≠z->c≠TO->c≠i1->c≠i2->s.heap.get? c=some o->g5.get? c=some o:=fun c o c1 c2 c3 c4 e =>
   b5.extBut _ _ c2 (b4.extBut _ _ c4 (b3.extBut _ _ c2 (b2.extBut _ _ c3 (b1.extBut _ _ c1 e))))
  have t1':st1 (k+1) g5:=S1.keep _ _ _ t1 fun c hc o e=>by
   rcases hc with r | r
   ·rw [r] at e ⊢; exact b5.extBut _ _ D.TOi1.symm (b4.extBut _ _ D.i12 (b3.extBut _ _ D.TOi1.symm e))
   ·rw [r] at e ⊢; exact b5.extBut _ _ D.l1TO (b4.extBut _ _ D.l1i2 (b3.extBut _ _ D.l1TO e))
  have t2':st2 (k+1) g5:=S2.keep _ _ _ t2 fun c hc o e=>by
   rcases hc with r | r
   ·rw [r] at e ⊢; exact b5.extBut _ _ D.TOi2.symm e
   ·rw [r] at e ⊢; exact b5.extBut _ _ D.l2TO e
  have zlt:g5.objs.size≠z:=Yd (Qm z5)
  refine wpAny_bind (m:=Builtin.SmallTypes.ownedTupleHandOut (.ref z) (.ref g5.objs.size)) ?_
  unfold Builtin.SmallTypes.ownedTupleHandOut
  have z6:gF (g5.push { cls:=.type "tuple",data:=.seq #[x,y] }) z TI TO .ellipsis f1:=Qb _ z5
  refine wpAny_bind (wpAny_setField_rec z6 (by simp) fun g7 z7 b7=>?_)
  have z7':gF g7 z TI TO (rawInt g5.objs.size) f1:=z7
  refine wpAny_setField_rec z7' (by simp) fun g8 z8 b8=>?_
  have z8':gF g8 z TI TO (rawInt g5.objs.size) false:=z8
  have up:∀ c o,c≠z->g5.get? c=some o->g8.get? c=some o:=fun c o c1 e=>b8.extBut _ _ c1 (b7.extBut _ _ c1 (Qb _ e))
  have T8:IsPair g8 g5.objs.size x y:=b8.extBut _ _ zlt (b7.extBut _ _ zlt (Qn _ rfl))
  have sz8:g8.objs.size=s.heap.objs.size+1:=by rw [b8.1,b7.1,Js,sz]
  rw [sz] at z8' T8
  refine wpAny_pure ⟨_,rfl,?_⟩
  show Q (.ref g5.objs.size) _
  rw [sz]
  refine hQ g8 x y _ _ px py (.inr ⟨_,_,rfl⟩) z8' ⟨_,_,up _ _ D.TOz o5'⟩ (S1.keep _ _ _ t1' fun c hc o e=>up c o (by rcases hc with r | r <;> rw [r]; exact D.i1z; exact D.l1z) e) (S2.keep _ _ _ t2' fun c hc o e=>up c o (by rcases hc with r | r <;> rw [r]; exact D.i2z; exact D.l2z) e) T8 sz8 fun c o c1 c2 c3 c4 e=>up c o c1 (kp5 c o c1 c2 c3 c4 e)
 ·simp only [Xc,if_false]
  have s1:st1 k h0:=S1.keep _ _ _ h1 fun c hc o e=>b0.extBut c o (by rcases hc with r | r <;> rw [r]; exact D.i1z; exact D.l1z) e
  rw [<- Array.forIn_toList]
  simp only [Xw,Zc]
  refine wpAny_bind (wpAny_bind (wpAny_bind (wpAny_holding ?_)))
  refine wpAny_bind (m:=Builtin.SmallTypes.nextOf (.ref i1)) (S1.item _ k _ _ _ k1 s1 fun x g2 px t1 b2=>wpAny_pure ?_)
  refine wpAny_pure ?_
  have s2:st2 k g2:=S2.keep _ _ _ h2 fun c hc o e=>by
   rcases hc with r | r
   ·rw [r] at e ⊢; exact b2.extBut _ _ D.i12.symm (b0.extBut _ _ D.i2z e)
   ·rw [r] at e ⊢; exact b2.extBut _ _ D.l2i1 (b0.extBut _ _ D.l2z e)
  refine wpAny_bind (wpAny_bind (wpAny_holding ?_))
  refine wpAny_bind (m:=Builtin.SmallTypes.nextOf (.ref i2)) (S2.item _ k _ _ _ k2 s2 fun y g4 py t2 b4=>wpAny_pure ?_)
  refine wpAny_pure (wpAny_pure ?_)
  refine wpAny_bind (wpAny_newTuple ?_ (by show 2<=sizeLine; rw [sizeLine_eq]; decide))
  have sz:g4.objs.size=s.heap.objs.size:=by rw [b4.1,b2.1,b0.1]
  have z4:gF g4 z TI TO f0 fb:=b4.extBut _ _ D.i2z.symm (b2.extBut _ _ D.i1z.symm hz0)
  have kp4:∀ c o,c≠z->c≠i1->c≠i2->s.heap.get? c=some o->g4.get? c=some o:=fun c o c1 c3 c4 e=>b4.extBut _ _ c4 (b2.extBut _ _ c3 (b0.extBut _ _ c1 e))
  have t1':st1 (k+1) g4:=S1.keep _ _ _ t1 fun c hc o e=>by
   rcases hc with r | r
   ·rw [r] at e ⊢; exact b4.extBut _ _ D.i12 e
   ·rw [r] at e ⊢; exact b4.extBut _ _ D.l1i2 e
  refine wpAny_pure ⟨_,rfl,?_⟩
  show Q (.ref g4.objs.size) _
  have T8:IsPair (g4.push { cls:=.type "tuple",data:=.seq #[x,y] }) g4.objs.size x y:=Qn _ rfl
  rw [sz] at T8 ⊢
  refine hQ _ x y _ _ px py hf (Qb _ z4) ⟨_,_,Qb _ (kp4 _ _ D.TOz D.TOi1 D.TOi2 hTO)⟩ (S1.keep _ _ _ t1' fun c hc o e=>Qb _ e) (S2.keep _ _ _ t2 fun c hc o e=>Qb _ e) T8 (by rw [Js,sz]) fun c o c1 c2 c3 c4 e=>Qb _ (kp4 c o c1 c3 c4 e)
theorem aCO {k:Nat} {a b f0:Value} {f1:Bool} {Q:Fin->Shared->Prop} (hh:A.handled=none) (D:ZipApart z TI TO i1 i2 l1 l2) (S1:Sub prog w i1 l1 n1 P1 st1) (S2:Sub prog w i2 l2 n2 P2 st2)
  (hz:gF s.heap z TI TO f0 f1) (hf:F0 f0) (hTI:IsPair s.heap TI (.ref i1) (.ref i2)) (hTO:IsPair s.heap TO a b) (h1:st1 k s.heap) (h2:st2 k s.heap) (hend:k=n1/\k<=n2∨k=n2/\k < n1)
  (hE:∀ h' e,(∀ c o,c≠z->c≠TO->c≠i1->c≠i2->s.heap.get? c=some o->h'.get? c=some o)->(∃ o,h'.get? e=some o/\o.cls=.type "StopIteration")->E (.ref e) { s with heap:=h' }) :
  wpAny (model prog w) A (Builtin.«zip.__next__» ⟨[.ref z],[]⟩) Q E s:=by
 refine wpAny_bind (m:=field (.ref z) 2) (wpAny_field hz rfl (x:=.bool false) rfl ?_)
 refine wpAny_bind (m:=field (.ref z) 3) (wpAny_field hz rfl (x:=.ref TI) rfl ?_)
 refine wpAny_bind (wpAny_seqItems hTI rfl ?_)
 refine wpAny_bind (m:=Builtin.SmallTypes.ownedTupleIsFree (.ref z)) (aBu hz hf ?_ fun h0 fb hz0 b0=>?_)
 ·simp only [if_true]
  refine wpAny_bind (wpAny_rule ?_)
  refine wpAny_bind (wpAny_field hz rfl (x:=.ref TO) rfl ?_)
  refine wpAny_bind (wpAny_setField_rec hz (by simp) fun g1 hz1 b1=>?_)
  have hz1':gF g1 z TI TO .ellipsis f1:=hz1
  refine wpAny_bind ?_
  simp only [Yg,Ym,Xw,Zc]
  have s1:st1 k g1:=S1.keep _ _ _ h1 fun c hc o e=>b1.extBut c o (by rcases hc with r | r <;> rw [r]; exact D.i1z; exact D.l1z) e
  refine wpAny_bind (wpAny_bind (wpAny_onRaise ?_))
  have fin:∀ (g:Heap) (e:Addr) (g0:Heap),(∃ o,g.get? e=some o/\o.cls=.type "StopIteration")->gF g z TI TO .ellipsis f1->(∀ c o,c≠z->c≠TO->c≠i1->c≠i2->s.heap.get? c=some o->g.get? c=some o) ->
    wpAny (model prog w) A (setField (.ref z) 0 .none) (fun _ s'=>E (.ref e) s') E { s with heap:=g }:=fun g e g0 ⟨oe,hoe,hce⟩ hzz kp=>by
   have hez:e≠z:=fun q=>by rw [q,hzz] at hoe; cases hoe; simp at hce
   exact wpAny_setField_rec hzz (by simp) fun g' _ b'=>hE g' e (fun c o c1 c2 c3 c4 q=>b'.extBut _ _ c1 (kp c o c1 c2 c3 c4 q)) ⟨oe,b'.extBut _ _ hez hoe,hce⟩
  rcases hend with ⟨e1,_⟩ | ⟨e2,k1⟩
  ·rw [e1] at s1
   refine wpAny_bind (m:=Builtin.SmallTypes.nextOf (.ref i1)) (S1.done _ _ _ _ hh s1 fun g2 e b2 he=>?_)
   exact fin g2 e g1 he (b2 _ _ D.i1z.symm hz1') fun c o c1 _ c3 _ q=>b2 _ _ c3 (b1.extBut _ _ c1 q)
  ·refine wpAny_bind (m:=Builtin.SmallTypes.nextOf (.ref i1)) (S1.item _ k _ _ _ k1 s1 fun x g2 px t1 b2=>wpAny_pure ?_)
   have o2:IsPair g2 TO a b:=b2.extBut _ _ D.TOi1 (b1.extBut _ _ D.TOz hTO)
   refine wpAny_bind (wpAny_seqItems o2 rfl ?_)
   refine wpAny_bind (wpAny_updateSeq_pair o2 fun g3 o3 b3=>?_)
   refine wpAny_bind (wpAny_letGo (wpAny_pure ?_))
   have s2:st2 n2 g3:=by
    rw [<- e2]
    exact S2.keep _ _ _ h2 fun c hc o e=>by
     rcases hc with r | r
     ·rw [r] at e ⊢; exact b3.extBut _ _ D.TOi2.symm (b2.extBut _ _ D.i12.symm (b1.extBut _ _ D.i2z e))
     ·rw [r] at e ⊢; exact b3.extBut _ _ D.l2TO (b2.extBut _ _ D.l2i1 (b1.extBut _ _ D.l2z e))
   refine wpAny_bind (wpAny_bind (wpAny_onRaise ?_))
   refine wpAny_bind (m:=Builtin.SmallTypes.nextOf (.ref i2)) (S2.done _ _ _ _ hh s2 fun g4 e b4 he=>?_)
   exact fin g4 e g3 he (b4 _ _ D.i2z.symm (b3.extBut _ _ D.TOz.symm (b2.extBut _ _ D.i1z.symm hz1'))) fun c o c1 c2 c3 c4 q=>b4 _ _ c4 (b3.extBut _ _ c2 (b2.extBut _ _ c3 (b1.extBut _ _ c1 q)))
 ·simp only [Xc,if_false]
  have s1:st1 k h0:=S1.keep _ _ _ h1 fun c hc o e=>b0.extBut c o (by rcases hc with r | r <;> rw [r]; exact D.i1z; exact D.l1z) e
  rw [<- Array.forIn_toList]
  simp only [Xw,Zc]
  refine wpAny_bind (wpAny_bind (wpAny_bind (wpAny_holding ?_)))
  rcases hend with ⟨e1,_⟩ | ⟨e2,k1⟩
  ·rw [e1] at s1
   refine wpAny_bind (m:=Builtin.SmallTypes.nextOf (.ref i1)) (S1.done _ _ _ _ hh s1 fun g2 e b2 he=>?_)
   exact hE g2 e (fun c o c1 _ c3 _ q=>b2 _ _ c3 (b0.extBut _ _ c1 q)) he
  ·refine wpAny_bind (m:=Builtin.SmallTypes.nextOf (.ref i1)) (S1.item _ k _ _ _ k1 s1 fun x g2 px t1 b2=>wpAny_pure ?_)
   refine wpAny_pure ?_
   have s2:st2 n2 g2:=by
    rw [<- e2]
    exact S2.keep _ _ _ h2 fun c hc o e=>by
     rcases hc with r | r
     ·rw [r] at e ⊢; exact b2.extBut _ _ D.i12.symm (b0.extBut _ _ D.i2z e)
     ·rw [r] at e ⊢; exact b2.extBut _ _ D.l2i1 (b0.extBut _ _ D.l2z e)
   refine wpAny_bind (wpAny_bind (wpAny_holding ?_))
   refine wpAny_bind (m:=Builtin.SmallTypes.nextOf (.ref i2)) (S2.done _ _ _ _ hh s2 fun g4 e b4 he=>?_)
   exact hE g4 e (fun c o c1 c2 c3 c4 q=>b4 _ _ c4 (b2.extBut _ _ c3 (b0.extBut _ _ c1 q))) he
structure ZipSt (h:Heap) (z TI TO i1 i2:Addr):Prop where
 hz:∃ f0 f1,F0 f0/\gF h z TI TO f0 f1
 ti:IsPair h TI (.ref i1) (.ref i2)
 to:∃ a b,IsPair h TO a b
end
section
variable {X:Cx} {es:List Expr} {x1:Nat} {tpos:Pos}
end
end L2
namespace L2
open PySem
section
variable {X:Cx} {K:PySem.W.Frag} {pos:Pos}
theorem kIn (hK:X.K=K):OpR X (compareOp .In) (rIn K false):=by subst hK; exact lI
end
section
variable {α β γ δ ε ζ η θ ι κ:Type}
end
end L2
namespace L2
open PySem PySem.Spec PyProof.Rows
section
variable {X:Cx}
end
section
variable {K:PySem.W.Frag} {own:Nat} {fr:List Nat} {g:TG} {te:TE} {σ:St} {H:Hp} {Qf:Hp->List V->Prop}
end
structure Tb (L:Bool) (t:SetTable) (n m:Nat):Prop where
 mask:(t.mask=7/\n<=m)∨(t.mask=31/\n<=18)
 dums:t.dummies = #[]
 plain:t.plain=true
 led:t.led=L
 size:t.place.size=n
 rise:t.place.toList.Pairwise (· < ·)
def ent (p:Int×Tok):Int×Value:=(hashInt p.1,.int p.1 p.2)
def SG (L:Bool) (h:Heap) (a:Addr) (ks:List (Int×Tok)):Prop:=∃ o ep es t,h.get? a=some o/\o.ExactSet/\o.data=.set es ep t/\es.toList.Perm (ks.map ent)/\Tb L t es.size 4
theorem SG.keep {L:Bool} {h h':Heap} {a:Addr} {l:List (Int×Tok)} (x:SG L h a l) (k:∀ o,h.get? a=some o->h'.get? a=some o):SG L h' a l:=by
 obtain ⟨o,ep,es,t,e,r⟩:=x
 exact ⟨o,ep,es,t,k o e,r⟩
section
variable {prog:Program} {w:World} {A:Around} {E:Value->Shared->Prop} {s:Shared} {L:Bool} {a:Addr}
structure KsOf (ks:List (Int×Tok)) (ns:List Int):Prop where
 nd:(ks.map (·.1)).Nodup
 mem:∀ k,k∈ks.map (·.1)↔k∈ns
 len:ks.length<=ns.length
end
section
variable {prog:Program} {w:World} {A:Around} {E:Value->Shared->Prop} {s:Shared} {S:Addr} {o:Obj} {ep:Nat} {es:Array (Int×Value)} {t:SetTable}
end
section
variable {X:Cx}
end
open PySem.AutoSeq1 (wpAny_loadPart')
theorem rV (l:Addr) (items:Array Value) (n:Nat) (dd:Option Addr) (sl:Array (Option Value)) (u:Tok) :
  Meets (Builtin.«tuple.__mul__» ⟨[.ref l,.int 1 u],[]⟩) (fun _ R s=>s.heap.get? l=some { cls:=.type "tuple",dict:=dd,data:=.seq items n,slots:=sl }/\R (.ok (.ret (Value.ref l))) s) :=
 .of_wp fun prog w A R s h=>by
  obtain ⟨hp,g,d,tk,os⟩:=s
  obtain ⟨hl,h⟩:=h
  have f1:=AutoSeq1.idx_int
  have f2:=AutoSeq1.sub_tuple_tuple
  wp_walk using wpAny_loadPart' hl
  exact ⟨_,rfl,h⟩
theorem qA (l:Addr) (items:Array Value) (n:Nat) (dd:Option Addr) (sl:Array (Option Value)) (u:Tok) (hne:items.isEmpty=false) :
  Meets (Builtin.«tuple.__mul__» ⟨[.ref l,.int 0 u],[]⟩) (fun _ R s=>s.heap.get? l=some { cls:=.type "tuple",dict:=dd,data:=.seq items n,slots:=sl }/\R (.ok (.ret (Value.ref s.heap.objs.size))) { s with heap:=s.heap.push { cls:=Value.type "tuple",data:=Data.seq #[] } }) :=
 .of_wp fun prog w A R s h=>by
  obtain ⟨hp,g,d,tk,os⟩:=s
  obtain ⟨hl,h⟩:=h
  have f1:=AutoSeq1.idx_int
  have f2:=AutoSeq1.sub_tuple_tuple
  wp_walk using wpAny_loadPart' hl
  exact ⟨_,rfl,h⟩
theorem oU (l:Addr) (items:Array Value) (n:Nat) (dd:Option Addr) (sl:Array (Option Value)) (u:Tok) (hne:items.isEmpty=true) :
  Meets (Builtin.«tuple.__mul__» ⟨[.ref l,.int 0 u],[]⟩) (fun _ R s=>s.heap.get? l=some { cls:=.type "tuple",dict:=dd,data:=.seq items n,slots:=sl }/\R (.ok (.ret (Value.ref l))) s) :=
 .of_wp fun prog w A R s h=>by
  obtain ⟨hp,g,d,tk,os⟩:=s
  obtain ⟨hl,h⟩:=h
  have f1:=AutoSeq1.idx_int
  have f2:=AutoSeq1.sub_tuple_tuple
  wp_walk using wpAny_loadPart' hl
  exact ⟨_,rfl,h⟩
def aE7 (K:PySem.W.Frag):R2:=fun x y H Q=>∃ a,∃ k:Nat,∃ xs,x=.ref a/\y=.int k/\SqT K H a xs/\k<=1000/\xs.length<=1000/\∀ p H',aC H H'->SqT K H' p (List.replicate k xs).flatten->Q (.ref p) H'
theorem aCP {X:Cx} {K:PySem.W.Frag} (hK:X.K=K):OpR X (binaryOp .Mult) (aE7 K):=by
 intro pins s σ H x y v u Q I rx ry h
 obtain ⟨a,k,xs,rfl,rfl,ha,h2,hz,q⟩:=h
 by_cases h1:1 < k
 ·exact aCC hK pins s σ H _ _ v u Q I rx ry ⟨a,k,xs,rfl,rfl,ha,by omega,by omega,hz,q⟩
 subst hK
 cases rx
 obtain ⟨t,rfl⟩:=ry
 obtain ⟨its,r,⟨⟨cls,dd,data,sl⟩,ho,hc,n,hd⟩,hzz⟩:=I.tuple ha
 simp only at hc hd
 subst hc hd
 refine wpAny_binaryOp_repeat_ref (T := "tuple") (U := "int") (by decide) ⟨_,ho,rfl⟩ (fun s'=>typeIs_int s' k t) jT PySem.F.fills_int_mul PySem.F.slot_int_rmul mQ PySem.F.slot_int_index.lookup
  (call_meets PySem.F.slot_int_rmul (typeIs_int s k t) PySem.F.entry_int_rmul (PySem.F.args_int_rmul_2 _ _) (kY k t a its.toArray n dd sl) ⟨ho,rfl,⟨_,ho,rfl⟩,?_⟩)
 rcases (show k=0∨k=1 by omega) with rfl | rfl
 ·by_cases hx:its = []
  ·subst hx
   cases r
   refine call_meets PySem.F.slot_tuple_mul ⟨_,ho,rfl⟩ PySem.F.entry_tuple_mul (PySem.F.args_tuple_mul_2 _ _) (oU a _ n dd sl t rfl) ⟨ho,?_⟩
   exact ⟨.ref a,H,I,rfl,q a H (aC.refl H) ha⟩
  ·have hne:its.toArray.isEmpty=false:=by
    cases its with
    | nil=>exact absurd rfl hx
    | cons _ _=>rfl
   refine call_meets PySem.F.slot_tuple_mul ⟨_,ho,rfl⟩ PySem.F.entry_tuple_mul (PySem.F.args_tuple_mul_2 _ _) (qA a its.toArray n dd sl t hne) ⟨ho,?_⟩
   refine ⟨.ref _,_,I.laid (t':=s.toks) (o:=.tup []) (fun b ob q=>Qb _ q) (Qh _) ?_,rfl,q _ _ (aC.new (I.hok.fresh (Qh _))) (SqT.of aB)⟩
   exact ⟨Jf _,[],0,.nil,Qn _ rfl⟩
 ·refine call_meets PySem.F.slot_tuple_mul ⟨_,ho,rfl⟩ PySem.F.entry_tuple_mul (PySem.F.args_tuple_mul_2 _ _) (rV a its.toArray n dd sl t) ⟨ho,?_⟩
  exact ⟨.ref a,H,I,rfl,q a H (aC.refl H) (by simpa using ha)⟩
abbrev aDz (h:Heap) (T:Addr) (a b c:Value):Prop:=h.get? T=some { cls:=.type "tuple",data:=.seq #[a,b,c] }
structure Zip3Apart (z TI TO i1 i2 i3 l1 l2 l3:Addr):Prop where
 TIz:TI≠z
 TOz:TO≠z
 i1z:i1≠z
 i2z:i2≠z
 i3z:i3≠z
 TITO:TI≠TO
 TIi1:TI≠i1
 TIi2:TI≠i2
 TIi3:TI≠i3
 TOi1:TO≠i1
 TOi2:TO≠i2
 TOi3:TO≠i3
 i12:i1≠i2
 i13:i1≠i3
 i23:i2≠i3
 l1:∀ c∈[z,TO,i1,i2,i3],l1≠c
 l2:∀ c∈[z,TO,i1,i2,i3],l2≠c
 l3:∀ c∈[z,TO,i1,i2,i3],l3≠c
section
variable {prog:Program} {w:World} {A:Around} {E:Value->Shared->Prop} {s:Shared} {z TI TO i1 i2 i3 l1 l2 l3:Addr} {n n2 n3:Nat} {P1 P2 P3:Nat->Value->Prop} {st1 st2 st3:Nat->Heap->Prop}
end
section
variable (k1 k2 k3:Sk) (h:Heap) (a b d:Addr)
end
section
variable {X:Cx} {es:List Expr} {x1:Nat} {tpos:Pos}
end
section
variable {K:PySem.W.Frag} {own:Nat} {fr:List Nat} {g:TG} {te:TE} {σ:St} {H:Hp} {Qf:Hp->List V->Prop}
end
section
variable {X:Cx} {K:PySem.W.Frag}
end
section
variable {X:Cx} {scope:Scope} {own frn:List Str} {fr:List Nat} {kx vx tg iter:Expr} {ifs:List Expr} {pos:Pos} {wi:TI} {g:TG} {tt:TT} {tk tv:TE}
theorem Inv.trackD {pins:List (Addr×Obj)} {σ:St} {H:Hp} {s:Shared} {D:Addr} {ys:List (Key×V)} {its:List (Key×Value)} (I:Inv X pins σ H s) (hD:s.heap.DictOf (bG X.prog X.w) D its) (hv:KV ys its) (hz:ys.length<=sizeLine) (hm:(D==sysModules)=false) (hn:H D=none) (hL:D≠X.env.locals)
  (h1:X.s₀.heap.objs.size<=D) (h2:∀ x c,X.env.cells.lookup x=some c->c≠D) (h3:∀ p∈X.pn++pins,p.1≠D):Inv X pins σ (upd H D (.dK ys)) s:=by
 have ne:∀ b u,H b=some u->b≠D:=fun b u e z=>by rw [z,hn] at e; cases e
 refine I.step (g':=s.gens) (d':=s.drawn) (t':=s.toks) (h':=s.heap) (ch:=[D]) (fun b hb=>?_) (fun b o _ _ _ e _=>e) (fun b o _ _ _ e _=>⟨o.slots,e⟩) (fun b o hc _ n=>?_) (fun b o _ e=>⟨o,e⟩)
  (fun b xs e=>by rw [aG (ne b _ e)]; exact e) (fun b o u e=>by rw [aG (ne b _ e)]; exact e) (fun b ps e=>⟨#[],by rw [aG (ne b _ e),e]; simp⟩) (fun _ h=>h) (fun b u e=>?_) I.bare
 ·have e:b=D:=by simpa using hb
  subst e
  exact ⟨.inr h1,hL,h2,h3⟩
 ·rw [aG (by simpa using hc)]; exact n
 ·by_cases hb:b=D
  ·subst hb
   rw [aB] at e; cases e
   exact ⟨hz,hm,its,hv,hD⟩
  ·rw [aG hb] at e
   exact (I.hok b u e).stay (fun c v _ q=>q) (fun c q=>by rw [aG (ne c _ q)]; exact q) fun c xs q=>by rw [aG (ne c _ q)]; exact q
end
def tUp (t:TE):TE:=fun σ H Q=>∃ P:V->Hp->Prop,t σ H P/\∀ x H1,P x H1->Q x H1
def aEb (H0:Hp) (t:TE):TE:=fun σ H Q=>t σ H fun x H'=>∃ a o kvs,H' a=some (.frz o (.dK kvs))/\NF H0 a/\Q x (upd H' a (.dK kvs))
def aEc (own:Nat) (fr:List Nat) (td:TE) (g:TG) (tt:TT) (te:TE):TE:=fun σ H Q=>td σ H fun x H1=>∃ a kvs,x=.ref a/\H1 a=some (.dK kvs)/\∀ o:Obj,∃ W:Nat->Nat->List V->St->Hp->Prop,(∃ m,W 0 m [] (blk own fr σ) (upd H1 a (.frz o (.dK kvs))))/\∀ i m ys σ' H,W i m ys σ' H ->
 ((Itd a o kvs).stop i H/\∀ p,H p=none->Q (.ref p) (upd (upd H p (.lst ys)) a (.dK kvs))) ∨
 ((Itd a o kvs).go i H/\∃ N:List V->St->Hp->Prop,(∀ ys' σ2 H2,N ys' σ2 H2->∃ m',m' < m/\W (i+1) m' ys' σ2 H2) /\
  ∀ x H',(Itd a o kvs).yld i H x H'->g x σ' H' fun σ2 H2=>tt σ2 H2 fun b H3=>if b=true then te σ2 H3 fun y H4=>ys.length < sizeLine/\N (ys++[y]) σ2 H4 else N ys σ2 H3)
section
variable {X:Cx} {scope:Scope} {own frn:List Str} {fr:List Nat} {e elt tg d:Expr} {ifs:List Expr} {pos:Pos} {t td:TE} {g:TG} {tt:TT} {te:TE}
theorem aE8 (h:PE X e t):PE X e (tUp t):=by
 intro pins s σ H Q I q
 obtain ⟨P,h1,h2⟩:=q
 refine thn (h pins s σ H P I h1) fun v s1 hx=>?_
 obtain ⟨x,H1,I1,r1,q1⟩:=hx
 exact ⟨x,H1,I1,r1,h2 _ _ q1⟩
theorem aCQ (h:PE X e t):PE X e (aEb X.H₀ t):=by
 intro pins s σ H Q I q
 refine thn (h pins s σ H _ I q) fun v s1 hx=>?_
 obtain ⟨x,H1,I1,r1,a,o,kvs,ea,nf,k⟩:=hx
 exact ⟨x,_,I1.thaw ea nf,r1,k⟩
theorem aBw (S:CompOk X scope own fr frn) (hc:X.calm=true) (hi:PE X d td) (hg:∀ C s0 H0 fp,PG (aX X scope (own++frn) C s0 H0 fp) tg g) (ht:∀ C s0 H0 fp,PF (aX X scope (own++frn) C s0 H0 fp) ifs tt)
  (he:∀ C s0 H0 fp,PE (aX X scope (own++frn) C s0 H0 fp) elt te) (hs:∀ x,foldedSetIterable d X.env x=pure x:=by intro _; rfl) :
  PE X (.ListComp elt [⟨tg,d,ifs,0⟩] scope pos) (aEc own.length fr td g tt te):=by
 intro pins s σ H Q I h
 refine aCQ (bR S hc (tS (aE8 hi)) hg ht he hs) pins s σ H Q I ⟨_,h,fun x H1 q=>?_⟩
 obtain ⟨a,kvs,ex,hx,k⟩:=q
 refine ⟨a,kvs,ex,hx,fun o nf=>?_⟩
 obtain ⟨W,w0,wk⟩:=k o
 refine ⟨W,w0,fun i m ys σ' H' w=>?_⟩
 rcases wk i m ys σ' H' w with ⟨st,q⟩ | z
 ·refine .inl ⟨st,fun p hp=>⟨a,o,kvs,?_,nf,q p hp⟩⟩
  rw [aG (fun z=>by rw [<- z,st.1] at hp; cases hp)]
  exact st.1
 ·exact .inr z
end
theorem aAs {a:Addr} {o:Obj} {kvs:List (Key×V)} {own:Nat} {fr:List Nat} {g:TG} {tt:TT} {te:TE} {σ:St} {H:Hp} {Q:Hp->List V->Prop} (SH:St->Prop) (Pv:Nat->List V->Hp->Prop) (hn:kvs.length<=sizeLine) (hσ:SH (blk own fr σ)) (h0:Pv 0 [] H) (hlen:∀ i ys H,Pv i ys H->ys.length<=i) (hl:∀ i ys H,Pv i ys H->H a=some (.frz o (.dK kvs)))
  (hs:∀ i ys σ p H,kvs[i]?=some p->SH σ->Pv i ys H->ys.length < sizeLine->g (kV p.1) σ H fun σ2 H2=>tt σ2 H2 fun b H3=>if b=true then te σ2 H3 fun y H4=>ys.length < sizeLine/\SH σ2/\Pv (i+1) (ys++[y]) H4 else SH σ2/\Pv (i+1) ys H3)
  (hd:∀ ys H,Pv kvs.length ys H->Q H ys) :
  ∃ W:Nat->Nat->List V->St->Hp->Prop,(∃ m,W 0 m [] (blk own fr σ) H)/\∀ i m ys σ' H,W i m ys σ' H ->
   ((Itd a o kvs).stop i H/\Q H ys) ∨
   ((Itd a o kvs).go i H/\∃ N:List V->St->Hp->Prop,(∀ ys' σ2 H2,N ys' σ2 H2->∃ m',m' < m/\W (i+1) m' ys' σ2 H2) /\
    ∀ x H',(Itd a o kvs).yld i H x H'->g x σ' H' fun σ2 H2=>tt σ2 H2 fun b H3=>if b=true then te σ2 H3 fun y H4=>ys.length < sizeLine/\N (ys++[y]) σ2 H4 else N ys σ2 H3):=by
 refine mO kvs.length hn SH Pv hσ h0 hlen (fun ys H p=>⟨hl _ _ _ p,rfl⟩) (fun i ys H hi p=>⟨hl _ _ _ p,hi⟩) (fun i ys σ x H H' hi sh p y hz=>?_) hd
 obtain ⟨rfl,v,hv,rfl⟩:=y
 exact hs i ys σ v _ hv sh p hz
section
variable {X:Cx}
theorem aBx:aEC X (fun x y H Q=>∃ p xs i v,x=.ref p/\y=.int i/\SqL X.K H p xs/\0<=i/\xs[i.toNat]?=some v/\Q v H):=by
 intro pins s σ H o i ov iv Q I ro ri h
 obtain ⟨p,xs,k,z,rfl,rfl,hq,h0,he,q⟩:=h
 cases ro
 obtain ⟨t,rfl⟩:=ri
 obtain ⟨its,r,pl,hz⟩:=I.list hq
 obtain ⟨w,ew,rw'⟩:=r.get he
 have hlt:k.toNat < xs.length:=(Qd.mp he).1
 have hsz:sizeLine < 2^62:=by rw [sizeLine_eq]; decide
 exact wpAny_getItem_list (Q:=EP X pins σ Q) pl.isList h0 (by omega) (by simpa using ew) ⟨z,H,I,rw',q⟩
end
section
variable {P:Program} {w:World} {A:Around} {E:Value->Shared->Prop} {s:Shared} {it d:Addr} {i ep:Nat} {es:Array DictEntry} {ob:Obj}
end
section
variable {X:Cx} {pins:List (Addr×Obj)} {σ:St} {H:Hp} {s:Shared} {a:Addr}
end
theorem KT.length {H:Hp} {kvs:List (List Key×V)} {xs:List (List Key×Addr×Value)} (r:KT H kvs xs):kvs.length=xs.length:=by
 induction r with
 | nil=>rfl
 | cons _ _ ih=>rw [Jh,Jh,ih]
theorem KT.at {H:Hp} {kvs:List (List Key×V)} {xs:List (List Key×Addr×Value)} (r:KT H kvs xs):∀ {i:Nat} {p:List Key×V} {x:List Key×Addr×Value},kvs[i]?=some p->xs[i]?=some x->p.1=x.1/\H x.2.1=some (.tup (p.1.map kV)):=by
 induction r with
 | nil=>intro i p x h; simp at h
 | cons h1 _ ih =>
  intro i p x hp hx
  cases i with
  | zero =>
   simp only [Wa,Option.some.injEq] at hp hx
   subst hp hx
   exact ⟨h1.1,h1.2.1⟩
  | succ j =>
   simp only [Wb] at hp hx
   exact ih hp hx
section
variable {X:Cx} {tg:Expr}
end
section
variable {X:Cx} {pos:Pos} {ek ev:Expr} {tk tv:TE}
end
abbrev KE:=List Key×Addr×V
def kvE (e:KE):List Key×V:=(e.1,e.2.2)
def Kp (ys:List KE) (H:Hp):Prop:=∀ e∈ys,H e.2.1=some (.tup (e.1.map kV))
def KY (ys:List KE) (its:List (List Key×Addr×Value)):Prop:=Paired (fun (p:KE) (q:List Key×Addr×Value)=>p.1=q.1/\p.2.1=q.2.1/\bI p.2.2 q.2.2) ys its
def DH (P:Program) (w:World) (h:Heap) (D:Addr) (its:List (List Key×Addr×Value)):Prop:=∃ o es ep,h.get? D=some o/\o.ExactDict/\o.data=.dict es ep/\es.toList=its.map (entryOfKey (tupleKind (bG P w)))/\(its.map (·.1)).Nodup
theorem Kp.wr {ys:List KE} {H:Hp} {D:Addr} {o:HO} (h:Kp ys H) (n:H D=none):Kp ys (upd H D o):=fun e he=>by
 rw [aG (fun z=>by have q:=h e he; rw [z,n] at q; cases q)]
 exact h e he
theorem KY.length {ys:List KE} {its:List (List Key×Addr×Value)} (r:KY ys its):ys.length=its.length:=by
 induction r with
 | nil=>rfl
 | cons _ _ ih=>rw [Jh,Jh,ih]
theorem KY.kt {ys:List KE} {its:List (List Key×Addr×Value)} {H:Hp} (r:KY ys its):Kp ys H->KT H (ys.map kvE) its:=by
 induction r with
 | nil=>intro _; exact .nil
 | cons h1 _ ih=>intro hp; exact .cons ⟨h1.1,by rw [<- h1.2.1]; exact hp _ (Qk ..),h1.2.2⟩ (ih fun e he=>hp e (Qq _ he))
theorem KY.snoc {ys:List KE} {its:List (List Key×Addr×Value)} {k:List Key} {b:Addr} {y:V} {v:Value} (r:KY ys its) (h:bI y v):KY (ys++[(k,b,y)]) (its++[(k,b,v)]):=by
 induction r with
 | nil=>exact .cons ⟨rfl,rfl,h⟩ .nil
 | cons h1 _ ih=>exact .cons h1 ih
theorem KY.keys {ys:List KE} {its:List (List Key×Addr×Value)} (r:KY ys its):ys.map (·.1)=its.map (·.1):=by
 induction r with
 | nil=>rfl
 | cons h1 _ ih=>rw [Jc,Jc,ih,h1.1]
theorem DH.at {P:Program} {w:World} {h h':Heap} {D:Addr} {its:List (List Key×Addr×Value)} (d:DH P w h D its) (k:∀ o,h.get? D=some o->h'.get? D=some o):DH P w h' D its:=let ⟨o,es,ep,h1,r⟩:=d; ⟨o,es,ep,k _ h1,r⟩
theorem DH.of {P:Program} {w:World} {h:Heap} {D:Addr} {its:List (List Key×Addr×Value)} (d:h.DictOfH (tupleKind (bG P w)) D its):DH P w h D its:=let ⟨o,es,ep,h1,h2,h3,h4,_,h5⟩:=d; ⟨o,es,ep,h1,h2,h3,h4,h5⟩
section
variable {X:Cx} {scope:Scope} {own frn:List Str} {fr:List Nat} {kx vx tg iter:Expr} {ifs:List Expr} {pos:Pos} {wi:TI} {g:TG} {tt:TT} {tk tv:TE}
end
section
variable {X:Cx} {scope:Scope} {own frn:List Str} {fr:List Nat} {e elt kx vx tg d:Expr} {ifs:List Expr} {pos:Pos} {t td:TE} {g:TG} {tt:TT} {te tk tv:TE}
end
section
variable {P:Program} {w:World} {A:Around} {E:Value->Shared->Prop} {s:Shared} {it d v:Addr} {i ep:Nat} {es:Array DictEntry} {ob:Obj}
end
theorem KT.vals {H:Hp} {kvs:List (List Key×V)} {xs:List (List Key×Addr×Value)} (r:KT H kvs xs):∀ {i:Nat} {p:List Key×V} {x:List Key×Addr×Value},kvs[i]?=some p->xs[i]?=some x->bI p.2 x.2.2:=by
 induction r with
 | nil=>intro i p x h; simp at h
 | cons h1 _ ih =>
  intro i p x hp hx
  cases i with
  | zero =>
   simp only [Wa,Option.some.injEq] at hp hx
   subst hp hx
   exact h1.2.2
  | succ j =>
   simp only [Wb] at hp hx
   exact ih hp hx
section
variable {X:Cx} {o:Expr} {to:TE} {p apos cpos pos:Pos}
end
structure KsU (ks:List (Int×Tok)) (ns:List Int):Prop where
 nd:(ks.map (·.1)).Nodup
 mem:∀ k,k∈ks.map (·.1)↔k∈ns
theorem KsU.old {ks:List (Int×Tok)} {ns:List Int} {k:Int} (h:KsU ks ns) (q:∃ p∈ks,p.1=k):KsU ks (ns++[k]):=⟨h.nd,fun x=>by
 rw [h.mem,Jm,Qs]
 refine ⟨.inl,fun z=>?_⟩
 rcases z with z | z
 ·exact z
 ·obtain ⟨p,hp,e⟩:=q
  rw [z,<- e]
  exact (h.mem _).mp (Qx.mpr ⟨p,hp,rfl⟩)⟩
theorem KsU.new {ks:List (Int×Tok)} {ns:List Int} {k:Int} {t:Tok} (h:KsU ks ns) (q:∀ p∈ks,p.1≠k):KsU ((k,t)::ks) (ns++[k]):=⟨by
 rw [Jc]
 refine Xi.mpr ⟨fun m=>?_,h.nd⟩
 obtain ⟨p,hp,e⟩:=Qx.mp m
 exact q p hp e,fun x=>by
 rw [Jc,Ql,h.mem,Jm,Qs]
 exact Or.comm⟩
section
variable {prog:Program} {w:World} {A:Around} {E:Value->Shared->Prop} {s:Shared} {L:Bool} {a:Addr}
end
section
variable {X:Cx} {scope:Scope} {own frn:List Str} {fr:List Nat} {elt tg iter:Expr} {ifs:List Expr} {pos:Pos} {wi:TI} {g:TG} {tt:TT} {te:TE}
end
section
variable {X:Cx} {scope:Scope} {own frn:List Str} {fr:List Nat} {elt tg d:Expr} {ifs:List Expr} {pos:Pos} {td:TE} {g:TG} {tt:TT} {te:TE}
end
section
variable {X:Cx} {K:PySem.W.Frag}
end
section
variable {X:Cx}
end
section
variable {X:Cx} {K:PySem.W.Frag}
end
section
variable {X:Cx}
end
theorem xO:typeLookup (.type "zip") "__len__" = pure none:=by rw [typeLookup_type,builtinLookup_eq_fast]; kernel_rfl
theorem wE:typeLookup (.type "zip") "__length_hint__" = pure none:=by rw [typeLookup_type,builtinLookup_eq_fast]; kernel_rfl
structure ZSt (k1 k2:Sk) (z TI TO i1 i2 l1 l2:Addr) (i:Nat) (h:Heap):Prop where
 zp:∃ f0 f1,F0 f0/\gF h z TI TO f0 f1
 ti:IsPair h TI (.ref i1) (.ref i2)
 to:∃ x y,IsPair h TO x y
 a1:ItK k1 h i1 l1 i
 a2:ItK k2 h i2 l2 i
theorem ZSt.keep {k1 k2:Sk} {z TI TO i1 i2 l1 l2:Addr} {i:Nat} {h h':Heap} (st:ZSt k1 k2 z TI TO i1 i2 l1 l2 i h) (k:∀ c∈[z,TI,TO,i1,i2],∀ o,h.get? c=some o->h'.get? c=some o):ZSt k1 k2 z TI TO i1 i2 l1 l2 i h':=by
 obtain ⟨⟨f0,f1,hf,hz⟩,hTI,⟨x,y,hTO⟩,h1,h2⟩:=st
 exact ⟨⟨f0,f1,hf,k z (by simp) _ hz⟩,k TI (by simp) _ hTI,⟨x,y,k TO (by simp) _ hTO⟩,h1.at fun o e=>k i1 (by simp) o e,h2.at fun o e=>k i2 (by simp) o e⟩
theorem ZSt.lt {k1 k2:Sk} {z TI TO i1 i2 l1 l2:Addr} {i:Nat} {h:Heap} (st:ZSt k1 k2 z TI TO i1 i2 l1 l2 i h):∀ c∈[z,TI,TO,i1,i2],c < h.objs.size:=by
 intro c hc
 obtain ⟨⟨f0,f1,hf,hz⟩,hTI,⟨x,y,hTO⟩,h1,h2⟩:=st
 simp only [Ql,Ja,or_false] at hc
 rcases hc with rfl | rfl | rfl | rfl | rfl
 ·exact Qm hz
 ·exact Qm hTI
 ·exact Qm hTO
 ·obtain ⟨o,e,_⟩:=h1.obj; exact Qm e
 ·obtain ⟨o,e,_⟩:=h2.obj; exact Qm e
def Prs (H:Hp) (xs ys zs:List V):Prop:=∀ (j:Nat) (z:V),zs[j]?=some z->∃ q x y,z=.ref q/\xs[j]?=some x/\ys[j]?=some y/\H q=some (.tup [x,y])
def wF (S:Addr) (H H':Hp):Prop:=∀ b o,b≠S->H b=some o->H' b=some o
theorem wF.sq {k:Sk} {K:PySem.W.Frag} {S l:Addr} {H H':Hp} {xs:List V} (e:wF S H H') (n:l≠S) (h:SqK k K H l xs):SqK k K H' l xs:=by
 cases k
 ·rcases h with (h | ⟨o,h⟩) | h
  ·exact .inl (.inl (e _ _ n h))
  ·exact .inl (.inr ⟨o,e _ _ n h⟩)
  ·exact .inr h
 ·rcases h with (h | ⟨o,h⟩) | h
  ·exact .inl (.inl (e _ _ n h))
  ·exact .inl (.inr ⟨o,e _ _ n h⟩)
  ·exact .inr h
theorem Prs.keep {S:Addr} {H H':Hp} {xs ys zs ws:List V} (h:Prs H xs ys zs) (hS:H S=some (.lst ws)) (e:wF S H H'):Prs H' xs ys zs:=fun j z hz=>by
 obtain ⟨q,x,y,h1,h2,h3,h4⟩:=h j z hz
 exact ⟨q,x,y,h1,h2,h3,e _ _ (fun c=>by rw [c,hS] at h4; cases h4) h4⟩
section
variable {X:Cx} {pins:List (Addr×Obj)} {σ:St}
theorem rW (hc:X.calm=true) (A:Around) (hA:A.handled=none) {k1 k2:Sk} {z TI TO i1 i2 l1 l2 S:Addr} {res:Value} {R:Result->Shared->Prop} {xs ys:List V} (DD:ZipApart z TI TO i1 i2 l1 l2) (nS:S∉[z,TI,TO,i1,i2]) (n1:l1≠S) (n2:l2≠S) (n:Nat) (hn:n=min xs.length ys.length) (hz:n<=sizeLine) :
  ∀ (k i:Nat) (s:Shared) (H:Hp) (zs:List V),n - i=k->i<=n->Inv X pins σ H s->(∀ c∈[z,TI,TO,i1,i2],iL X pins H c)->ZSt k1 k2 z TI TO i1 i2 l1 l2 i s.heap->SqK k1 X.K H l1 xs->SqK k2 X.K H l2 ys->H S=some (.lst zs)->zs.length=i->Prs H xs ys zs ->
  (∀ s' H' zs',Inv X pins σ H' s'->wF S H H'->H' S=some (.lst zs')->zs'.length=n->Prs H' xs ys zs'->R (.ok (.ret res)) s') ->
  codeAny (model X.prog X.w) A (.builtin "list.extend.loop" ⟨[.ref S,.ref z,res],[]⟩) R s:=by
 intro k
 induction k with
 | zero =>
  intro i s H zs hk hi I hf st ha hb hS hl hp hR
  have hin:i=n:=by omega
  subst hin
  obtain ⟨⟨f0,f1,hf0,hz0⟩,hTI,⟨x0,y0,hTO⟩,h1,h2⟩:=st
  obtain ⟨its,rv,pa⟩:=I.seqK ha
  obtain ⟨jts,rw',pb⟩:=I.seqK hb
  have la:=rv.length
  have lb:=rw'.length
  have hT:s.TypeIs (.ref z) "zip" := ⟨_,hz0,rfl⟩
  refine codeAny_builtin F.entry_extend_loop ?_
  rw [Around.under_plainId F.plain_extend_loop _]
  show wpAny _ A.in1 (pyNext (.ref z) >>= _) _ _ s
  refine wpAny_bind ?_
  unfold pyNext
  refine wpAny_bind (wpAny_attempt (wpAny_callSpecial?_slot (name:=Str.ofString "__next__") hT PySem.F.slot_zip_next (wpAny_call_entry PySem.F.slot_zip_next hT PySem.F.entry_zip_next
   (aCO (A:=_) hA DD (rR k1 X.prog X.w i1 l1 its.toArray (Ne.symm DD.l1i1).symm) (rR k2 X.prog X.w i2 l2 jts.toArray DD.l2i2) hz0 hf0 hTI hTO ⟨h1,pa⟩ ⟨h2,pb⟩ (by rw [Qj,Qj]; omega) fun h' e kp he=>?_) (PySem.F.args_zip_next_1 _))))
  obtain ⟨oe,hoe,hce⟩:=he
  refine wpAny_bind (wpAny_isInstance (T := "StopIteration") (b:=true) ⟨oe,hoe,hce⟩ isSubtype_stop (wpAny_pure ?_))
  refine wpAny_pure (hR _ H zs ?_ (fun _ _ _ e=>e) hS hl hp)
  refine I.turnedL (t':=s.toks) [z,TO,i1,i2] (fun c o hc' e=>?_) (fun c hc'=>hf c ?_)
  ·simp only [Ql,Ja,or_false,not_or] at hc'
   exact kp c o hc'.1 hc'.2.1 hc'.2.2.1 hc'.2.2.2 e
  ·simp only [Ql,Ja,or_false] at hc' ⊢
   rcases hc' with r | r | r | r
   ·exact .inl r
   ·exact .inr (.inr (.inl r))
   ·exact .inr (.inr (.inr (.inl r)))
   ·exact .inr (.inr (.inr (.inr r)))
 | succ k ih =>
  intro i s H zs hk hi I hf st ha hb hS hl hp hR
  have hlt:i < n:=by omega
  have hlts:=st.lt
  obtain ⟨⟨f0,f1,hf0,hz0⟩,hTI,⟨x0,y0,hTO⟩,h1,h2⟩:=st
  have hi1:i < xs.length:=by omega
  have hi2:i < ys.length:=by omega
  have hx:xs[i]?=some xs[i]:=Qc hi1
  have hy:ys[i]?=some ys[i]:=Qc hi2
  generalize xs[i]=x at hx
  generalize ys[i]=y at hy
  obtain ⟨its,rv,pa⟩:=I.seqK ha
  obtain ⟨jts,rw',pb⟩:=I.seqK hb
  obtain ⟨u,hu,ru⟩:=rv.get hx
  obtain ⟨v,hv,rv2⟩:=rw'.get hy
  have hT:s.TypeIs (.ref z) "zip" := ⟨_,hz0,rfl⟩
  have hs1:i < its.toArray.size:=by rw [Qj]; exact (Qd.mp hu).1
  have hs2:i < jts.toArray.size:=by rw [Qj]; exact (Qd.mp hv).1
  refine codeAny_builtin F.entry_extend_loop ?_
  rw [Around.under_plainId F.plain_extend_loop _]
  show wpAny _ A.in1 (pyNext (.ref z) >>= _) _ _ s
  refine wpAny_bind ?_
  unfold pyNext
  refine wpAny_bind (wpAny_attempt (wpAny_callSpecial?_slot (name:=Str.ofString "__next__") hT PySem.F.slot_zip_next (wpAny_call_entry PySem.F.slot_zip_next hT PySem.F.entry_zip_next
   (aBv DD (rR k1 X.prog X.w i1 l1 its.toArray DD.l1i1) (rR k2 X.prog X.w i2 l2 jts.toArray DD.l2i2) hz0 hf0 hTI hTO ⟨h1,pa⟩ ⟨h2,pb⟩ hs1 hs2 fun h' u' v' g0 g1 pu pv hg0 hz' hTO' s1 s2 hT' hsz kp=>wpAny_pure ?_) (PySem.F.args_zip_next_1 _))))
  have eu:u'=u:=by
   have q:its[i]?=some u':=by simpa using pu
   rw [hu] at q
   exact (Option.some.inj q).symm
  have ev:v'=v:=by
   have q:jts[i]?=some v':=by simpa using pv
   rw [hv] at q
   exact (Option.some.inj q).symm
  subst eu ev
  have hf0':=I.hok.fresh (Qh s.heap.objs.size)
  have fz:=I.fpOk (Qh s.heap.objs.size) hf0'
  have I2:Inv X pins σ H { s with heap:=h' }:=by
   refine I.turnedL (t':=s.toks) [z,TO,i1,i2] (fun c o hc' e=>?_) (fun c hc'=>hf c ?_)
   ·simp only [Ql,Ja,or_false,not_or] at hc'
    exact kp c o hc'.1 hc'.2.1 hc'.2.2.1 hc'.2.2.2 e
   ·simp only [Ql,Ja,or_false] at hc' ⊢
    rcases hc' with r | r | r | r
    ·exact .inl r
    ·exact .inr (.inr (.inl r))
    ·exact .inr (.inr (.inr (.inl r)))
    ·exact .inr (.inr (.inr (.inr r)))
  have I3:Inv X pins σ (upd H s.heap.objs.size (.tup [x,y])) { s with heap:=h' }:=by
   refine I2.trackO (show cJ X.prog X.w _ _ _ (.tup [x,y]) from ⟨by show 2<=sizeLine; rw [sizeLine_eq]; decide,[u',v'],0,.cons ru (.cons rv2 .nil),hT'⟩) hf0' fz.2.1 I.sz fz.2.2.2.2.1 fz.2.2.2.2.2
  have e3:∀ b o,H b=some o->upd H s.heap.objs.size (.tup [x,y]) b=some o:=aC.new hf0'
  have qS:S≠s.heap.objs.size:=fun c=>by rw [c,hf0'] at hS; cases hS
  have t3:upd H s.heap.objs.size (.tup [x,y]) s.heap.objs.size=some (.tup [x,y]):=aB
  have hS3:=e3 _ _ hS
  have f3:∀ c∈[z,TI,TO,i1,i2],iL X pins (upd H s.heap.objs.size (.tup [x,y])) c:=fun c hc'=>⟨by rw [aG (Jr (hlts c hc'))]; exact (hf c hc').1,(hf c hc').2⟩
  generalize upd H s.heap.objs.size (.tup [x,y])=H3 at I3 e3 t3 hS3 f3
  obtain ⟨zz,kts,nn,r,hkl,e⟩:=I3.lstM hS3
  show wpAny _ A.in1 (updateSeq S (·.push (.ref s.heap.objs.size)) >>= _) _ _ _
  refine wpAny_bind ?_
  have I4:=I3.lset (t':=s.toks) (its':=kts++[.ref s.heap.objs.size]) (f:=(·.push (.ref s.heap.objs.size))) (ys:=zs++[.ref s.heap.objs.size]) hS3 e (by simp) (r.append (.cons (show bI (.ref s.heap.objs.size) (.ref s.heap.objs.size) from rfl) .nil)) (by rw [Qv,Jz]; omega)
  have b4:wF S H (upd H3 S (.lst (zs++[.ref s.heap.objs.size]))):=fun b o nb q=>by rw [aG nb]; exact e3 _ _ q
  refine wpAny_updateSeq e rfl (wpAny_pure ⟨plainId_quiet F.plain_extend_loop _,ih (i+1) _ (upd H3 S (.lst (zs++[.ref s.heap.objs.size]))) (zs++[.ref s.heap.objs.size]) (by omega) hlt I4 (fun c hc'=>⟨by rw [aG (fun q:c=S=>nS (q ▸ hc'))]; exact (f3 c hc').1,(f3 c hc').2⟩) ?_ (b4.sq n1 ha) (b4.sq n2 hb) aB (by rw [Qv,Jz,hl]) ?_ fun s' H' zs' I' b' hS' hl' hp'=>hR s' H' zs' I' (fun b o nb q=>b' b o nb (b4 b o nb q)) hS' hl' hp'⟩)
   (by rw [Qj,<- hkl]; omega) (by show (kts.toArray.push _).size<=sizeLine+1; rw [Array.size_push,Qj,<- hkl]; omega)
  ·refine ZSt.keep (h:=h') ⟨⟨_,_,hg0,hz'⟩,kp _ _ DD.TIz DD.TITO DD.TIi1 DD.TIi2 hTI,hTO',s1.1,s2.1⟩ fun c hc' o q=>?_
   exact (Xd _ _ (fun q:S=c=>nS (q.symm ▸ hc'))).trans q
  ·intro j w hw
   by_cases hj:j < zs.length
   ·rw [Jg hj] at hw
    obtain ⟨q,x',y',g1,g2,g3,g4⟩:=hp j w hw
    exact ⟨q,x',y',g1,g2,g3,b4 _ _ (fun c=>by rw [c,hS] at g4; cases g4) g4⟩
   ·rw [Jn (by omega)] at hw
    have hj2:j - zs.length=0:=by
     have:=(Qd.mp hw).1
     rw [Jz] at this
     omega
    rw [hj2] at hw
    have ej:j=i:=by omega
    subst ej
    exact ⟨s.heap.objs.size,x,y,(Option.some.inj hw).symm,hx,hy,by rw [aG (Ne.symm qS)]; exact t3⟩
def aBy (K:PySem.W.Frag) (k1 k2:Sk) (ta:TA):TE:=fun σ H Q=>ta σ H fun vs H1=>∃ a b xs ys,vs = [.ref a,.ref b]/\SqK k1 K H1 a xs/\SqK k2 K H1 b ys/\min xs.length ys.length<=sizeLine/\∀ p zs H2,aC H1 H2->H1 p=none->H2 p=some (.lst zs)->zs.length=min xs.length ys.length->Prs H2 xs ys zs->Q (.ref p) H2
theorem xP (k1 k2:Sk) {a b:Expr} {ta:TA} {p pos p2 pos2:Pos} (hc:X.calm=true) (hgl:Gl X "list") (hml:X.mg "list" = none) (hg:Gl X "zip") (hm:X.mg "zip" = none) (ha:PA X [a,b] ta) (hs:starEach [a,b] X.env = [(false,eval a X.env),(false,eval b X.env)]:=by rfl) (hs2:starEach [b] X.env = [(false,eval b X.env)]:=by rfl) :
  PE X (.Call (.Name "list" p2) [.Call (.Name "zip" p) [a,b] [] pos] [] pos2) (aBy X.K k1 k2 ta):=by
 intro pins s σ H Q I h
 refine wpAny_Call_Name_kw (kB (u:=.type "list") I hgl hml (by decide +kernel) ?_ (by decide) (by decide))
 refine PyProof.Rows.callWith_type1 ?_ rfl rfl
 show wpAny _ _ (spliced ((false,eval (.Call (.Name "zip" p) [a,b] [] pos) X.env)::[])) _ _ s
 refine Calls.spliced_cons ?_
 refine Call_ (kB (u:=.type "zip") I hg hm (by decide +kernel) (PyProof.Rows.callWith_type1 (thn (ha pos pins s σ H _ I h) fun us s1 hx9=>?_) (by rw [hs,hs2]) (by rw [hs2]; rfl)))
 obtain ⟨vs,H1,I1,r1,q1⟩:=hx9
 obtain ⟨l1,l2,xs,ys,rfl,hA,hB,hmn,q⟩:=q1
 obtain ⟨u1,u2,rfl,r1',r2'⟩:=lX r1
 cases r1'
 cases r2'
 obtain ⟨its,rv,pa⟩:=I1.seqK hA
 obtain ⟨jts,rw',pb⟩:=I1.seqK hB
 refine callType_new PySem.F.called_zip (by decide) (PySem.F.typeCall_zip_2 _ _) (PySem.F.newCall_zip_2 _ _) (fun obj=>PySem.F.args_object_init_3 obj _ _) PySem.F.entry_zip_new (vO k1 k2 l1 l2 its.toArray jts.toArray) ⟨pa,pb,?_⟩
 have n1:(zh1 k1 s1.heap l1).objs.size=s1.heap.objs.size+1:=Js ..
 have n2:(zh2 k1 k2 s1.heap l1 l2).objs.size=s1.heap.objs.size+2:=by rw [Js,n1]
 have n3:(zh3 k1 k2 s1.heap l1 l2).objs.size=s1.heap.objs.size+3:=by rw [Js,n2]
 have n4:(zh4 k1 k2 s1.heap l1 l2).objs.size=s1.heap.objs.size+4:=by rw [Js,n3]
 have n5:(zh5 k1 k2 s1.heap l1 l2).objs.size=s1.heap.objs.size+5:=by rw [Js,n4]
 have g5:IsZip (zh5 k1 k2 s1.heap l1 l2) (zh4 k1 k2 s1.heap l1 l2).objs.size (zh2 k1 k2 s1.heap l1 l2).objs.size (zh3 k1 k2 s1.heap l1 l2).objs.size .none:=Qn _ rfl
 have g4:IsPair (zh5 k1 k2 s1.heap l1 l2) (zh3 k1 k2 s1.heap l1 l2).objs.size .none .none:=Qb _ (Qn _ rfl)
 have g3:IsPair (zh5 k1 k2 s1.heap l1 l2) (zh2 k1 k2 s1.heap l1 l2).objs.size (.ref s1.heap.objs.size) (.ref (zh1 k1 s1.heap l1).objs.size):=Qb _ (Qb _ (Qn _ rfl))
 have g2:ItK k2 (zh5 k1 k2 s1.heap l1 l2) (zh1 k1 s1.heap l1).objs.size l2 0:=(ItK.new k2 (zh1 k1 s1.heap l1) l2).at fun o e=>Qb _ (Qb _ (Qb _ e))
 have g1:ItK k1 (zh5 k1 k2 s1.heap l1 l2) s1.heap.objs.size l1 0:=(ItK.new k1 s1.heap l1).at fun o e=>Qb _ (Qb _ (Qb _ (Qb _ e)))
 have kp:∀ c o,s1.heap.get? c=some o->(zh5 k1 k2 s1.heap l1 l2).get? c=some o:=fun c o e=>Qb _ (Qb _ (Qb _ (Qb _ (Qb _ e))))
 refine ⟨⟨_,g5,rfl⟩,?_⟩
 refine Calls.spliced_nil ?_
 rw [n1,n2,n3,n4] at *
 have I2:Inv X pins σ H1 { s1 with heap:=zh5 k1 k2 s1.heap l1 l2 }:=I1.kept (t':=s1.toks) kp
 generalize zh5 k1 k2 s1.heap l1 l2=h5 at *
 have st:ZSt k1 k2 (s1.heap.objs.size+4) (s1.heap.objs.size+2) (s1.heap.objs.size+3) s1.heap.objs.size (s1.heap.objs.size+1) l1 l2 0 h5:=⟨⟨.none,false,.inl rfl,g5⟩,g3,⟨_,_,g4⟩,g1,g2⟩
 have hge:∀ c∈[s1.heap.objs.size+4,s1.heap.objs.size+2,s1.heap.objs.size+3,s1.heap.objs.size,s1.heap.objs.size+1],s1.heap.objs.size<=c/\c < s1.heap.objs.size+5:=fun c hc=>by
  simp only [Ql,Ja,or_false] at hc
  rcases hc with r | r | r | r | r <;> omega
 have hfp:∀ c∈[s1.heap.objs.size+4,s1.heap.objs.size+2,s1.heap.objs.size+3,s1.heap.objs.size,s1.heap.objs.size+1],iL X pins H1 c:=fun c hc=>I1.fpOk (hge c hc).1 (I1.hok.fresh (hge c hc).1)
 have DD:ZipApart (s1.heap.objs.size+4) (s1.heap.objs.size+2) (s1.heap.objs.size+3) s1.heap.objs.size (s1.heap.objs.size+1) l1 l2:=by
  have d:∀ i j:Nat,i≠j->s1.heap.objs.size+i≠s1.heap.objs.size+j:=fun i j h=>by omega
  have a1:∀ c∈[s1.heap.objs.size+4,s1.heap.objs.size+2,s1.heap.objs.size+3,s1.heap.objs.size,s1.heap.objs.size+1],l1≠c:=fun c hc'=>I1.seq_ne hA (hfp c hc')
  have a2:∀ c∈[s1.heap.objs.size+4,s1.heap.objs.size+2,s1.heap.objs.size+3,s1.heap.objs.size,s1.heap.objs.size+1],l2≠c:=fun c hc'=>I1.seq_ne hB (hfp c hc')
  exact ⟨d 2 4 (by decide),d 3 4 (by decide),d 0 4 (by decide),d 1 4 (by decide),d 2 3 (by decide),d 2 0 (by decide),d 2 1 (by decide),d 3 0 (by decide),d 3 1 (by decide),d 0 1 (by decide),
   a1 _ (by simp),a1 _ (by simp),a1 _ (by simp),a1 _ (by simp),a2 _ (by simp),a2 _ (by simp),a2 _ (by simp),a2 _ (by simp)⟩
 generalize hzz:s1.heap.objs.size+4=z at *
 generalize hTT:s1.heap.objs.size+2=TI at *
 generalize hTO':s1.heap.objs.size+3=TO at *
 generalize hi1':s1.heap.objs.size+1=i2 at *
 have hsz:∀ c∈[z,TI,TO,s1.heap.objs.size,i2],c < h5.objs.size:=st.lt
 generalize hs5:({ s1 with heap:=h5 }:Shared)=s5 at I2
 have e5:s5.heap=h5:=by rw [<- hs5]
 rw [<- e5] at st hsz g5
 have hT:s5.TypeIs (.ref z) "zip" := ⟨_,g5,rfl⟩
 refine callType_codes (Q₁:=fun obj s₁=>obj=.ref s5.heap.objs.size/\s₁={ s5 with heap:=s5.heap.push { cls:=.type "list",data:=.seq #[] } }) F.called_list (F.typeCall_list_1 _) F.entry_list_init
  (code_list_new _ ⟨rfl,rfl⟩) fun obj s₁ h₁=>?_
 obtain ⟨rfl,rfl⟩:=h₁
 have I6:=I2.lnew (t':=s5.toks) (ys:=[]) (its:=[]) .nil (Jf _)
 have hfr:=I2.fresh
 have hS6:upd H1 s5.heap.objs.size (.lst []) s5.heap.objs.size=some (.lst []):=aB
 have s6:aC H1 (upd H1 s5.heap.objs.size (.lst [])):=aC.new hfr
 have hfS:=I2.fpOk (H':=H1) (Qh s5.heap.objs.size) hfr
 have nl1:l1≠s5.heap.objs.size:=I2.seq_ne hA hfS
 have nl2:l2≠s5.heap.objs.size:=I2.seq_ne hB hfS
 have nS:s5.heap.objs.size∉[z,TI,TO,s1.heap.objs.size,i2]:=fun c=>Qy _ (hsz _ c)
 have hf6:∀ c∈[z,TI,TO,s1.heap.objs.size,i2],iL X pins (upd H1 s5.heap.objs.size (.lst [])) c:=fun c hc'=>⟨by rw [aG (Jr (hsz c hc'))]; exact (hfp c hc').1,(hfp c hc').2⟩
 have st6:ZSt k1 k2 z TI TO s1.heap.objs.size i2 l1 l2 0 (s5.heap.push { cls:=.type "list",data:=.seq #[] }):=st.keep fun c _ o e=>Qb _ e
 have hS:(s5.heap.push { cls:=.type "list",data:=.seq #[] }).get? s5.heap.objs.size=some { cls:=.type "list",data:=.seq #[] }:=Qn _ rfl
 have bl6:wF s5.heap.objs.size H1 (upd H1 s5.heap.objs.size (.lst [])):=fun b o _ e=>s6 b o e
 refine ⟨⟨_,hS,rfl⟩,F.args_list_init_2 _ _,?_⟩
 show wpAny _ X.A.in1.in1 (do let old<-Builtin.List.listItems (.ref s5.heap.objs.size); Builtin.List.listUpdate (.ref s5.heap.objs.size) (fun _=>#[]); letGo old.toList.reverse; Builtin.List.listExtendWith (.ref s5.heap.objs.size) (.ref z) .none) _ _ _
 refine wpAny_bind ?_
 unfold Builtin.List.listItems
 refine wpAny_bind (wpAny_seqItems hS rfl (wpAny_pure ?_))
 show wpAny _ X.A.in1.in1 (updateSeq s5.heap.objs.size (fun _=>#[]) >>= fun _=>letGo (#[]:Array Value).toList.reverse >>= fun _=>Builtin.List.listExtendWith (.ref s5.heap.objs.size) (.ref z) .none) _ _ _
 refine wpAny_bind (wpAny_updateSeq hS rfl ?_)
 have I7:=I6.lset (t':=s5.toks) (f:=fun _=>#[]) (its':=[]) (ys:=[]) aB hS rfl .nil (Jf _)
 have hS7:=Ze (Obj.mapSeq (fun _=>(#[]:Array Value))) hS rfl
 have st7:=st6.keep (h':=(s5.heap.push { cls:=.type "list",data:=.seq #[] }).update s5.heap.objs.size (Obj.mapSeq (fun _=>(#[]:Array Value)))) fun c hc' o q=>(Xd _ _ (fun q:s5.heap.objs.size=c=>nS (q.symm ▸ hc'))).trans q
 have bl7:wF s5.heap.objs.size H1 (upd (upd H1 s5.heap.objs.size (.lst [])) s5.heap.objs.size (.lst [])):=fun b o nb e=>by rw [aG nb]; exact bl6 b o nb e
 have hf7:∀ c∈[z,TI,TO,s1.heap.objs.size,i2],iL X pins (upd (upd H1 s5.heap.objs.size (.lst [])) s5.heap.objs.size (.lst [])) c:=fun c hc'=>⟨by rw [aG (Jr (hsz c hc'))]; exact (hf6 c hc').1,(hf6 c hc').2⟩
 have g7:IsZip ((s5.heap.push { cls:=.type "list",data:=.seq #[] }).update s5.heap.objs.size (Obj.mapSeq (fun _=>(#[]:Array Value)))) z TI TO .none:=(Xd _ _ (fun q:s5.heap.objs.size=z=>nS (by rw [q]; simp))).trans (Qb _ g5)
 refine wpAny_bind (wpAny_letGo ?_)
 generalize (s5.heap.push { cls:=.type "list",data:=.seq #[] }).update s5.heap.objs.size (Obj.mapSeq (fun _=>(#[]:Array Value)))=h7 at I7 hS7 st7 g7
 have hT7:({ s5 with heap:=h7 }:Shared).TypeIs (.ref z) "zip" := by obtain ⟨f0,f1,_,hz⟩:=st7.zp; exact ⟨_,hz,rfl⟩
 have neS:s5.heap.objs.size≠z:=fun e=>nS (by rw [e]; simp)
 unfold Builtin.List.listExtendWith
 refine wpAny_bind (wpAny_typeOf hT7 ?_)
 have h1:Builtin.List.listSameRef (.ref s5.heap.objs.size) (.ref z)=false:=by simp [Builtin.List.listSameRef,neS]
 have h2:(Value.type "zip" == Value.type "list")=false:=by decide
 have h3:(Value.type "zip" == Value.type "tuple")=false:=by decide
 simp only [h1,h2,h3,Bool.or_false,Xc,if_false]
 have key:∀ (H':Hp) (h':Heap),Inv X pins σ H' { s5 with heap:=h' }->wF s5.heap.objs.size H1 H'->(∀ c∈[z,TI,TO,s1.heap.objs.size,i2],iL X pins H' c)->ZSt k1 k2 z TI TO s1.heap.objs.size i2 l1 l2 0 h'->H' s5.heap.objs.size=some (.lst []) ->
   codeAny (model X.prog X.w) X.A.in1 (.builtin "list.extend.loop" ⟨[.ref s5.heap.objs.size,.ref z,.none],[]⟩) (wants (fun r s₂=>r=Value.none/\EP X pins σ Q (Value.ref s5.heap.objs.size) s₂) X.xe) { s5 with heap:=h' }:=by
  intro H' h' I' b' f' st' hS'
  refine rW hc X.A.in1 (I1.ok.hd hc) DD nS nl1 nl2 _ rfl hmn (min xs.length ys.length - 0) 0 _ H' [] rfl (Jf _) I' f' st' (b'.sq nl1 hA) (b'.sq nl2 hB) hS' rfl (fun j w hw=>by simp at hw) fun s' H2 zs I8 b8 hS8 hl8 hp8=>?_
  refine ⟨rfl,.ref s5.heap.objs.size,H2,I8,rfl,q _ zs H2 (fun b o e=>?_) hfr hS8 hl8 hp8⟩
  have nb:b≠s5.heap.objs.size:=fun c=>by rw [c,hfr] at e; cases e
  exact b8 b o nb (b' b o nb e)
 refine wpAny_bind (wpAny_pyIter_zip g7 ?_)
 refine wpAny_bind (wpAny_holding ?_)
 unfold Builtin.List.listLengthHint
 refine wpAny_bind (wpAny_specialOf hT7 xO ?_)
 show wpAny _ X.A.in1.in1 (specialOf (Value.ref z) (Str.ofString "__length_hint__") >>= _) _ _ _
 refine wpAny_bind (wpAny_specialOf hT7 wE ?_)
 refine wpAny_pure ?_
 refine wpAny_ite_split (fun _=>?_) (fun _=>wpAny_pure ⟨plainId_quiet F.plain_extend_loop _,key _ h7 I7 bl7 hf7 st7 aB⟩)
 refine wpAny_bind (wpAny_rule ?_)
 refine wpAny_bind ?_
 show wpAny _ X.A.in1.in1 (updateSeq s5.heap.objs.size (·.push .none) >>= fun _=>updateSeq s5.heap.objs.size (·.pop)) _ _ _
 refine wpAny_bind (wpAny_updateSeq hS7 rfl ?_)
 have I8:=I7.lset (t':=s5.toks) (f:=(·.push .none)) (its':=[.none]) (ys:=[.non]) aB hS7 rfl (.cons rfl .nil) (by rw [sizeLine_eq]; decide)
 have hS8:=Ze (Obj.mapSeq (·.push Value.none)) hS7 rfl
 refine wpAny_updateSeq (hz:=by seq_fits) hS8 rfl ?_
 have I9:=I8.lset (t':=s5.toks) (f:=(·.pop)) (its':=[]) (ys:=[]) aB hS8 rfl .nil (Jf _)
 refine wpAny_pure ⟨plainId_quiet F.plain_extend_loop _,key _ _ I9 (fun b o nb e=>?_) (fun c hc'=>?_) ?_ aB⟩
 ·rw [aG nb,aG nb]; exact bl7 b o nb e
 ·have nc:=Jr (hsz c hc')
  exact ⟨by rw [aG nc,aG nc]; exact (hf7 c hc').1,(hf7 c hc').2⟩
 ·exact st7.keep fun c hc' o q=>(Xd _ _ (fun q:s5.heap.objs.size=c=>nS (q.symm ▸ hc'))).trans ((Xd _ _ (fun q:s5.heap.objs.size=c=>nS (q.symm ▸ hc'))).trans q)
end
section
variable {X:Cx}
end
theorem aE9:bootBuiltins "max" = some (.builtin "max"):=by decide +kernel
def aCR (ys:List KE) (k:List Key):Bool:=ys.any fun e=>decide (e.1=k)
def aCS (ys:List KE) (k:List Key) (b:Addr) (y:V):List KE:=if aCR ys k=true then ys.map (fun e=>if e.1=k then (e.1,e.2.1,y) else e) else ys++[(k,b,y)]
theorem aBz {ys:List KE} {k:List Key}:aCR ys k=true↔k∈ys.map (·.1):=by
 unfold aCR
 rw [Ju,Qx]
 exact ⟨fun ⟨e,h1,h2⟩=>⟨e,h1,of_decide_eq_true h2⟩,fun ⟨e,h1,h2⟩=>⟨e,h1,decide_eq_true h2⟩⟩
theorem Kp.put {ys:List KE} {H:Hp} {k:List Key} {b:Addr} {y:V} (h:Kp ys H) (hb:H b=some (.tup (k.map kV))):Kp (aCS ys k b y) H:=by
 unfold aCS
 split
 ·intro e he
  obtain ⟨e0,h0,rfl⟩:=Qx.mp he
  have:=h e0 h0
  split
  ·exact this
  ·exact this
 ·intro e he
  rcases Jm.mp he with he | he
  ·exact h e he
  ·rw [Qs.mp he]; exact hb
theorem KY.has {ys:List KE} {its:List (List Key×Addr×Value)} {k:List Key} (r:KY ys its):aCR ys k=(atKey its k).isSome:=by
 rw [Jl,aBz,r.keys]
 unfold atKey
 rw [Yz,List.find?_isSome,Qx]
 exact ⟨fun ⟨e,h1,h2⟩=>⟨e,h1,decide_eq_true h2⟩,fun ⟨e,h1,h2⟩=>⟨e,h1,of_decide_eq_true h2⟩⟩
theorem KY.mapE {ys:List KE} {its:List (List Key×Addr×Value)} {k:List Key} {y:V} {v:Value} (r:KY ys its) (h:bI y v):KY (ys.map (fun e=>if e.1=k then (e.1,e.2.1,y) else e)) (its.map (putAt k v)):=by
 induction r with
 | nil=>exact .nil
 | @cons p q ps qs h1 _ ih =>
  refine .cons ?_ ih
  by_cases hk:p.1=k
  ·have e1:(if p.1=k then (p.1,p.2.1,y) else p)=(p.1,p.2.1,y):=if_pos hk
   have e2:putAt k v q=(q.1,q.2.1,v):=if_pos (h1.1 ▸ hk)
   show (if p.1=k then (p.1,p.2.1,y) else p).1=(putAt k v q).1/\(if p.1=k then (p.1,p.2.1,y) else p).2.1=(putAt k v q).2.1/\bI (if p.1=k then (p.1,p.2.1,y) else p).2.2 (putAt k v q).2.2
   rw [e1,e2]
   exact ⟨h1.1,h1.2.1,h⟩
  ·have e1:(if p.1=k then (p.1,p.2.1,y) else p)=p:=if_neg hk
   have e2:putAt k v q=q:=if_neg (fun z=>hk (h1.1.trans z))
   show (if p.1=k then (p.1,p.2.1,y) else p).1=(putAt k v q).1/\(if p.1=k then (p.1,p.2.1,y) else p).2.1=(putAt k v q).2.1/\bI (if p.1=k then (p.1,p.2.1,y) else p).2.2 (putAt k v q).2.2
   rw [e1,e2]
   exact h1
theorem KY.stored {ys:List KE} {its:List (List Key×Addr×Value)} {k:List Key} {b:Addr} {y:V} {v:Value} (r:KY ys its) (h:bI y v):KY (aCS ys k b y) (storedH its k b v):=by
 unfold aCS storedH
 rw [r.has]
 split
 ·exact r.mapE h
 ·exact r.snoc h
section
variable {X:Cx} {scope:Scope} {own frn:List Str} {fr:List Nat} {kx vx tg iter:Expr} {ifs:List Expr} {pos:Pos} {wi:TI} {g:TG} {tt:TT} {tk tv:TE}
end
section
variable {K:PySem.W.Frag} {own:Nat} {fr:List Nat} {g g2:TG} {te:TE} {wi2:TI} {σ:St} {H:Hp} {Q:Hp->List V->Prop}
end
section
variable {X:Cx} {scope:Scope} {own frn:List Str} {fr:List Nat} {elt tg iter tg2 iter2:Expr} {pos:Pos} {wi wi2:TI} {g g2:TG} {te:TE}
end
section
variable {X:Cx} {pins:List (Addr×Obj)} {σ:St}
end
section
variable {prog:Program} {w:World} {A:Around} {R:Result->Shared->Prop} {s:Shared} {kx vx tg iter tg2 iter2:Expr} {scope:Scope} {pos:Pos} {it:Value} {D:Addr} {env:Env}
theorem qB:compTurn (.DictComp kx vx [⟨tg,iter,[],0⟩,⟨tg2,iter2,[],0⟩] scope pos) 0 it (.ref D) env=(standAt iter.pos >>= fun _=>pyNext it >>= fun r=>match r with
   | none=>pure (.done .next)
   | some v=>letOwnedTupleGo tg it v >>= fun _=>assign tg env v >>= fun _ =>
    (eval iter2 env >>= fun x=>standAt iter2.pos >>= fun _=>foldedSetIterable iter2 env x >>= fun x=>holding [x] (pyIter x) >>= fun i =>
     runOwn (.compStart (.DictComp kx vx [⟨tg,iter,[],0⟩,⟨tg2,iter2,[],0⟩] scope pos) 1 i (.ref D) env) env >>= fun _ =>
     again (.compLoop (.DictComp kx vx [⟨tg,iter,[],0⟩,⟨tg2,iter2,[],0⟩] scope pos) 0 it (.ref D) env))):=by rfl
theorem qC:compTurn (.DictComp kx vx [⟨tg,iter,[],0⟩,⟨tg2,iter2,[],0⟩] scope pos) 1 it (.ref D) env=(standAt iter2.pos >>= fun _=>pyNext it >>= fun r=>match r with
   | none=>pure (.done .next)
   | some v=>letOwnedTupleGo tg2 it v >>= fun _=>assign tg2 env v >>= fun _ =>
    (eval kx env >>= fun kv=>holding [kv] (eval vx env) >>= fun vv=>standAt { line:=kx.pos.line,col:=kx.pos.col,endLine:=vx.pos.endLine,endCol:=vx.pos.endCol } >>= fun _=>holding [kv,vv] (dictSet D kv vv)) >>= fun _ =>
     again (.compLoop (.DictComp kx vx [⟨tg,iter,[],0⟩,⟨tg2,iter2,[],0⟩] scope pos) 1 it (.ref D) env)):=by rfl
theorem kG
  (h0:codeAny (model prog w) A (.compLoop (.DictComp kx vx [⟨tg,iter,[],0⟩,⟨tg2,iter2,[],0⟩] scope pos) 1 it (.ref D) env) R s)
  (h:wpAny (model prog w) A (pyIter it) (fun it' s'=>codeAny (model prog w) A (.compLoop (.DictComp kx vx [⟨tg,iter,[],0⟩,⟨tg2,iter2,[],0⟩] scope pos) 1 it' (.ref D) env) R s')
   (notedBy (model prog w) A env fun x s'=>R (.error x) s') s) :
  codeAny (model prog w) A (.compStart (.DictComp kx vx [⟨tg,iter,[],0⟩,⟨tg2,iter2,[],0⟩] scope pos) 1 it (.ref D) env) R s:=by
 refine codeAny_of_tree ?_
 show wpAny _ _ ((compStart (.DictComp kx vx [⟨tg,iter,[],0⟩,⟨tg2,iter2,[],0⟩] scope pos) 1 it (.ref D) env).onRaise (fun x=>do noteFrame x env; standAt theWindowsPlace)) _ _ s
 refine wpAny_notedAt ?_
 unfold compStart
 show wpAny _ _ (ask >>= _) _ _ s
 refine wpAny_bind (wpAny_askSetting (wpAny_ite ?_))
 split
 ·first
   | exact wpAny_bind (wpAny_pure (wpAny_pure (And.intro rfl h0)))
   | exact wpAny_pure (And.intro rfl h0)
 ·first
   | exact wpAny_bind (wpAny_rule (wpAny_bind (wpAny_standAt (wpAny_bind (wpAny_mono h (fun it' s' h'=>wpAny_pure (And.intro rfl h')) fun _ _ x=>x)))))
   | (refine wpAny_bind (wpAny_rule ?_); show wpAny _ _ (standAt iter2.pos >>= _) _ _ s; exact wpAny_bind (wpAny_standAt (wpAny_bind (wpAny_mono h (fun it' s' h'=>wpAny_pure (And.intro rfl h')) fun _ _ x=>x))))
theorem tU (I:Nat->Shared->Prop)
  (turn:∀ n s,I n s->wpAny (model prog w) A (pyNext it) (fun r s₁=>match r with
   | none=>R (.ok .next) s₁
   | some v=>wpAny (model prog w) A (letOwnedTupleGo tg2 it v) (fun _ s₁'=>wpAny (model prog w) A (assign tg2 env v) (fun _ s₂ =>
     wpAny (model prog w) A (eval kx env) (fun kv s₃=>wpAny (model prog w) A (eval vx env) (fun vv s₄ =>
       wpAny (model prog w) A (dictSet D kv vv) (fun _ s₅=>∃ m,m < n/\I m s₅) (fun _ _=>False) s₄) (fun _ _=>False) s₃) (fun _ _=>False) s₂) (fun _ _=>False) s₁') (fun _ _=>False) s₁) (fun _ _=>False) s)
  (n:Nat) (h:I n s) :
  codeAny (model prog w) A (.compLoop (.DictComp kx vx [⟨tg,iter,[],0⟩,⟨tg2,iter2,[],0⟩] scope pos) 1 it (.ref D) env) R s:=by
 refine codeAny_loop rfl I (fun n s hI=>?_) n h
 show wpAny _ A ((compTurn (.DictComp kx vx [⟨tg,iter,[],0⟩,⟨tg2,iter2,[],0⟩] scope pos) 1 it (.ref D) env).onRaise (fun x=>do noteFrame x env; theTreesLotGoes x)) _ _ s
 refine wpAny_noted ?_
 rw [qC]
 refine wpAny_bind (wpAny_standAt (wpAny_bind (wpAny_mono (turn n s hI) (fun r s₁ h₁=>?_) fun _ _ h'=>h'.elim)))
 cases r with
 | none=>exact wpAny_pure h₁
 | some v =>
  refine wpAny_bind (wpAny_mono h₁ (fun _ s₁' h₁'=>?_) fun _ _ h'=>h'.elim)
  refine wpAny_bind (wpAny_mono h₁' (fun _ s₂ h₂=>?_) fun _ _ h'=>h'.elim)
  exact wpAny_bind (wpAny_bind (wpAny_mono h₂ (fun kv s₃ h₃=>wpAny_bind (wpAny_holding (wpAny_mono h₃ (fun vv s₄ h₄=>wpAny_bind (wpAny_standAt (wpAny_holding (wpAny_mono h₄ (fun _ s₅ h₅=>wpAny_pure ⟨rfl,h₅⟩) fun _ _ h'=>h'.elim)))) fun _ _ h'=>h'.elim))) fun _ _ h'=>h'.elim))
theorem rX (hs2:∀ x,foldedSetIterable iter2 env x=pure x) (I:Nat->Shared->Prop)
  (turn:∀ n s,I n s->wpAny (model prog w) A (pyNext it) (fun r s₁=>match r with
   | none=>R (.ok .next) s₁
   | some v=>wpAny (model prog w) A (letOwnedTupleGo tg it v) (fun _ s₁'=>wpAny (model prog w) A (assign tg env v) (fun _ s₂ =>
     wpAny (model prog w) A (eval iter2 env) (fun x s₃=>wpAny (model prog w) A (pyIter x) (fun i s₄ =>
       codeAny (model prog w) A (.compStart (.DictComp kx vx [⟨tg,iter,[],0⟩,⟨tg2,iter2,[],0⟩] scope pos) 1 i (.ref D) env) (fun r s₅=>match r with
        | .ok _=>∃ m,m < n/\I m s₅
        | .error _=>False) s₄) (fun _ _=>False) s₃) (fun _ _=>False) s₂) (fun _ _=>False) s₁') (fun _ _=>False) s₁) (fun _ _=>False) s)
  (n:Nat) (h:I n s) :
  codeAny (model prog w) A (.compLoop (.DictComp kx vx [⟨tg,iter,[],0⟩,⟨tg2,iter2,[],0⟩] scope pos) 0 it (.ref D) env) R s:=by
 refine codeAny_loop rfl I (fun n s hI=>?_) n h
 show wpAny _ A ((compTurn (.DictComp kx vx [⟨tg,iter,[],0⟩,⟨tg2,iter2,[],0⟩] scope pos) 0 it (.ref D) env).onRaise (fun x=>do noteFrame x env; theTreesLotGoes x)) _ _ s
 refine wpAny_noted ?_
 rw [qB]
 refine wpAny_bind (wpAny_standAt (wpAny_bind (wpAny_mono (turn n s hI) (fun r s₁ h₁=>?_) fun _ _ h'=>h'.elim)))
 cases r with
 | none=>exact wpAny_pure h₁
 | some v =>
  refine wpAny_bind (wpAny_mono h₁ (fun _ s₁' h₁'=>?_) fun _ _ h'=>h'.elim)
  refine wpAny_bind (wpAny_mono h₁' (fun _ s₂ h₂=>?_) fun _ _ h'=>h'.elim)
  refine wpAny_bind (wpAny_mono h₂ (fun x s₃ h₃=>?_) fun _ _ h'=>h'.elim)
  refine wpAny_bind (wpAny_standAt (wpAny_bind (wpAny_of_eq (hs2 x) (wpAny_bind (wpAny_holding (wpAny_mono h₃ (fun i s₄ h₄=>?_) fun _ _ h'=>h'.elim))))))
  refine wpAny_bind (wpAny_runOwn (codeAny_mono h₄ fun r s₅ h₅=>?_))
  cases r with
  | ok f=>exact wpAny_pure ⟨rfl,h₅⟩
  | error e=>exact False.elim h₅
end
theorem wG {Y:Cx} {kx vx tg iter tg2 iter2:Expr} {scope:Scope} {pos:Pos} {it2 D:Addr} {fp2:List Addr} {tn2:Nat->Heap->Prop} {J2:It} {g2:TG} {tk tv:TE} {ps:List (Addr×Obj)} {σ:St} {H:Hp} {s:Shared} {zs:List (Key×V)} {its:List (Key×Value)} {o:Obj} {F:List (Key×V)->St->Hp->Prop} {R:Result->Shared->Prop}
  (hx:∀ v s',¬ Y.xe v s') (hc:Y.calm=true) (T:Turn Y.prog Y.w Y.K tg2 J2 fp2 it2 tn2) (hg:PG Y tg2 g2) (hk:PE Y kx tk) (he:PE Y vx tv)
  (hDL:D≠Y.env.locals) (hD1:D∈Y.ex∨Y.s₀.heap.objs.size<=D) (hDc:∀ x c,Y.env.cells.lookup x=some c->c≠D) (hDp:∀ p∈Y.pn,p.1≠D) (hDfs:D∉Y.fs) (hps:∀ p∈ps,p.1≠D)
  (I0:Inv Y ((D,o)::ps) σ H s) (pl0:s.heap.DictOf (bG Y.prog Y.w) D its) (v0:KV zs its) (z0:zs.length<=sizeLine) (st0:tn2 0 s.heap) (f0:∀ b∈fp2,iL Y ((D,o)::ps) H b)
  (w:∃ W2:Nat->Nat->List (Key×V)->St->Hp->Prop,(∃ m2,W2 0 m2 zs σ H)/\∀ j m2 zs σ3 H4,W2 j m2 zs σ3 H4->(J2.stop j H4/\F zs σ3 H4)∨(J2.go j H4/\∃ N2:List (Key×V)->St->Hp->Prop,(∀ zs' σ4 H5,N2 zs' σ4 H5->∃ m3,m3 < m2/\W2 (j+1) m3 zs' σ4 H5) /\
   ∀ x H',J2.yld j H4 x H'->g2 x σ3 H' fun σ4 H5=>tk σ4 H5 fun kx H6=>tv σ4 H6 fun y H7=>∃ k,kx=kV k/\zs.length < sizeLine/\N2 (eG zs k y) σ4 H7))
  (hR:∀ (s':Shared) (σ':St) (H':Hp) (zs':List (Key×V)) (its':List (Key×Value)) (o':Obj),Inv Y ((D,o')::ps) σ' H' s'->s'.heap.DictOf (bG Y.prog Y.w) D its'->KV zs' its'->zs'.length<=sizeLine->F zs' σ' H'->R (.ok .next) s') :
  codeAny (model Y.prog Y.w) Y.A (.compStart (.DictComp kx vx [⟨tg,iter,[],0⟩,⟨tg2,iter2,[],0⟩] scope pos) 1 (.ref it2) (.ref D) Y.env) R s:=by
 obtain ⟨W2,⟨m0,w0⟩,turn⟩:=w
 have stat:∀ {H':Hp} {o':Obj},(∀ b∈fp2,H' b=none)->∀ b∈fp2,iL Y ((D,o')::ps) H' b:=fun {H' o'} hn b hb=>by
  obtain ⟨_,q1,q2,q3,q4,q5⟩:=f0 b hb
  refine ⟨hn b hb,q1,q2,q3,q4,fun p hp=>?_⟩
  rcases Jm.mp hp with h | h
  ·exact q5 p (Jq _ h)
  ·rcases Ql.mp h with h | h
   ·rw [h]; exact q5 (D,o) (Qo _ (Qk ..))
   ·exact q5 p (Qo _ (Qq _ h))
 have loop:codeAny (model Y.prog Y.w) Y.A (.compLoop (.DictComp kx vx [⟨tg,iter,[],0⟩,⟨tg2,iter2,[],0⟩] scope pos) 1 (.ref it2) (.ref D) Y.env) R s:=by
  refine tU (fun n s'=>∃ j σ' H' ys its o,Inv Y ((D,o)::ps) σ' H' s'/\s'.heap.DictOf (bG Y.prog Y.w) D its/\KV ys its/\ys.length<=sizeLine/\tn2 j s'.heap/\(∀ b∈fp2,H' b=none)/\W2 j n ys σ' H') ?_ m0
   ⟨0,σ,H,zs,its,o,I0,pl0,v0,z0,st0,fun b hb=>(f0 b hb).1,w0⟩
  rintro n s5 ⟨i,σ5,H5,ys,its,o,I5,pl5,v5,z5,st5,fr5,w5⟩
  have p5':=I5.pin (D,o) (Qo _ (Qk ..))
  rcases turn i n ys σ5 H5 w5 with ⟨stop,qn⟩ | ⟨go,N,hN,step⟩
  ·refine wpAny_mono (T.done Y rfl rfl rfl hc i _ s5 σ5 H5 (fun _ _=>False) I5 (stat fr5) st5 stop) (fun r s6 hx9=>?_) fun _ _ z=>z
   obtain ⟨hr,I6⟩:=hx9
   subst hr
   have p6:=I6.pin (D,o) (Qo _ (Qk ..))
   have pl6:s6.heap.DictOf (bG Y.prog Y.w) D its:=pl5.at fun o' e=>p6.1.trans (p5'.1.symm.trans e)
   exact hR s6 σ5 H5 ys its o I6 pl6 v5 z5 qn
  ·refine wpAny_mono (T.item Y rfl rfl rfl hc i _ s5 σ5 H5 (fun _ _=>False) I5 (stat fr5) st5 go) (fun r s6 hx9=>?_) fun _ _ z=>z
   obtain ⟨u,hr,h6⟩:=hx9
   subst hr
   refine wpAny_mono h6 (fun _ s7 hx9=>?_) fun _ _ z=>z
   obtain ⟨x,H7,I7,r7,y7,st7,fr7⟩:=hx9
   have I7':=I7.pinned (stat fr7) (T.obj _ _ st7)
   refine wpAny_mono (hg _ s7 σ5 H7 x u _ I7' r7 (step x H7 y7)) (fun _ s8 hx9=>?_) fun v s' z=>hx v s' z
   obtain ⟨σ8,H8,I8,q8⟩:=hx9
   have keepT:∀ {H':Hp} {s':Shared} {σ':St},Inv Y (((D,o)::ps)++kT fp2 s7.heap) σ' H' s'->tn2 (i+1) s'.heap/\(∀ b∈fp2,H' b=none)/\s'.heap.DictOf (bG Y.prog Y.w) D its/\H' D=none:=fun {H' s' σ'} I'=>by
    refine ⟨T.keep _ _ _ st7 fun b hb o e=>(I'.pin (b,o) (Qo _ (Qo _ (dX hb e)))).1,fun b hb=>?_,?_,?_⟩
    ·obtain ⟨o,e,d⟩:=T.obj _ _ st7 b hb
     exact (I'.pin (b,o) (Qo _ (Qo _ (dX hb e)))).2.1
    ·have p':=I'.pin (D,o) (Qo _ (Jq _ (Qk ..)))
     exact pl5.at fun o' e=>p'.1.trans (p5'.1.symm.trans e)
    ·exact (I'.pin (D,o) (Qo _ (Jq _ (Qk ..)))).2.1
   refine wpAny_mono (hk _ s8 σ8 H8 _ I8 q8) (fun kv s9 hx9=>?_) fun v s' z=>hx v s' z
   obtain ⟨kxv,H9,I9,r9,q9⟩:=hx9
   refine wpAny_mono (he _ s9 σ8 H9 _ I9 q9) (fun y s10 hx9=>?_) fun v s' z=>hx v s' z
   obtain ⟨yv,H10,I10,r10,k10,ek,lt10,q10⟩:=hx9
   subst ek
   obtain ⟨t10,fr10,pl10,hD10⟩:=keepT I10
   have hl:=v5.length
   refine wpAny_dictSet_pairs (knd:=bG Y.prog Y.w) (pX r9) pl10 (fun h11 pl11 sb11=>?_) (by rw [<- hl]; exact Zs lt10)
   obtain ⟨m',hm,w'⟩:=hN _ σ8 H10 q10
   have I10':Inv Y [] σ8 H10 s10:=I10.pins_of fun p hp=>by cases hp
   have I11:Inv Y [] σ8 H10 { s10 with heap:=h11,toks:=s10.toks+1 } :=
    I10'.turned (t':=s10.toks+1) (it:=D) (fun b o hb e=>(sb11.2 b hb).trans e) hD10 hDL hD1 hDc (fun p hp=>by rw [Jw] at hp; exact hDp p hp)
   obtain ⟨o11,es11,ep11,ho11,hc11,hd11,_⟩:=id pl11
   refine ⟨m',hm,i+1,σ8,H10,eG ys k10 yv,stored its k10 y,o11,I11.pins_of fun p hp=>?_,pl11,v5.put k10 r10,Qt (jG _ _ _) lt10,T.keep _ _ _ t10 fun b hb o e=>(sb11.2 b (fun z=>?_)).trans e,fr10,w'⟩
   ·rcases Ql.mp hp with h | h
    ·subst h
     exact ⟨ho11,hD10,hDL,hDfs,fun v z=>by rw [hd11] at z; cases z⟩
    ·obtain ⟨a1,a2,a3,a4,a5⟩:=I10.pin p (Qo _ (Jq _ (Qq _ h)))
     exact ⟨(sb11.2 p.1 (hps p h)).trans a1,a2,a3,a4,a5⟩
   ·exact (f0 b hb).2.2.2.2.2 (D,_) (Qo _ (Qk ..)) z.symm
 exact kG loop (T.self Y.A 0 _ _ _ st0 loop)
def aCT (own:Nat) (fr:List Nat) (wi:TI) (g:TG) (wi2:TI) (g2:TG) (tk tv:TE):TE:=fun σ H Q=>wi σ H fun J H1=>∃ W:Nat->Nat->List (Key×V)->St->Hp->Prop,(∃ m,W 0 m [] (blk own fr σ) H1)/\∀ i m ys σ' H,W i m ys σ' H ->
   (J.stop i H/\∀ p,H p=none->Q (.ref p) (upd H p (.dK ys))) ∨
   (J.go i H/\∃ N:List (Key×V)->St->Hp->Prop,(∀ ys' σ2 H2,N ys' σ2 H2->∃ m',m' < m/\W (i+1) m' ys' σ2 H2) /\
    ∀ x H',J.yld i H x H'->g x σ' H' fun σ2 H2=>wi2 σ2 H2 fun J2 H3=>∃ W2:Nat->Nat->List (Key×V)->St->Hp->Prop,(∃ m2,W2 0 m2 ys σ2 H3)/\∀ j m2 zs σ3 H4,W2 j m2 zs σ3 H4->(J2.stop j H4/\N zs σ3 H4)∨(J2.go j H4/\∃ N2:List (Key×V)->St->Hp->Prop,(∀ zs' σ4 H5,N2 zs' σ4 H5->∃ m3,m3 < m2/\W2 (j+1) m3 zs' σ4 H5) /\
     ∀ x H',J2.yld j H4 x H'->g2 x σ3 H' fun σ4 H5=>tk σ4 H5 fun kx H6=>tv σ4 H6 fun y H7=>∃ k,kx=kV k/\zs.length < sizeLine/\N2 (eG zs k y) σ4 H7))
section
variable {X:Cx} {scope:Scope} {own frn:List Str} {fr:List Nat} {kx vx tg iter tg2 iter2:Expr} {pos:Pos} {wi wi2:TI} {g g2:TG} {tk tv:TE}
theorem tV {pins:List (Addr×Obj)} {σ:St} {H2:Hp} {s2:Shared} {it:Addr} {fp:List Addr} {tn:Nat->Heap->Prop} {J:It} {RR:Value->Addr->Result->Shared->Prop} {E:Value->Shared->Prop} {Q:Hp->List (Key×V)->Prop}
  (S:CompOk X scope own fr frn) (hc:X.calm=true) (I2:Inv X pins σ H2 s2) (T:Turn X.prog X.w X.K tg J fp it tn) (st2:tn 0 s2.heap) (f2:∀ b∈fp,iL X pins H2 b)
  (hg:∀ C s0 H0 fp,PG (aX X scope (own++frn) C s0 H0 fp) tg g) (hi2:∀ C s0 H0 fp,PI (aX X scope (own++frn) C s0 H0 fp) tg2 iter2 wi2) (hg2:∀ C s0 H0 fp,PG (aX X scope (own++frn) C s0 H0 fp) tg2 g2) (hk:∀ C s0 H0 fp,PE (aX X scope (own++frn) C s0 H0 fp) kx tk) (he:∀ C s0 H0 fp,PE (aX X scope (own++frn) C s0 H0 fp) vx tv) (hs2:∀ C x,foldedSetIterable iter2 (compEnvC scope (cN X.env scope.names []) C X.env) x=pure x)
  (w:∃ W:Nat->Nat->List (Key×V)->St->Hp->Prop,(∃ m,W 0 m [] (blk own.length fr σ) H2)/\∀ i m ys σ' H,W i m ys σ' H ->
   (J.stop i H/\Q H ys) ∨
   (J.go i H/\∃ N:List (Key×V)->St->Hp->Prop,(∀ ys' σ2 H2,N ys' σ2 H2->∃ m',m' < m/\W (i+1) m' ys' σ2 H2) /\
    ∀ x H',J.yld i H x H'->g x σ' H' fun σ2 H2=>wi2 σ2 H2 fun J2 H3=>∃ W2:Nat->Nat->List (Key×V)->St->Hp->Prop,(∃ m2,W2 0 m2 ys σ2 H3)/\∀ j m2 zs σ3 H4,W2 j m2 zs σ3 H4->(J2.stop j H4/\N zs σ3 H4)∨(J2.go j H4/\∃ N2:List (Key×V)->St->Hp->Prop,(∀ zs' σ4 H5,N2 zs' σ4 H5->∃ m3,m3 < m2/\W2 (j+1) m3 zs' σ4 H5) /\
     ∀ x H',J2.yld j H4 x H'->g2 x σ3 H' fun σ4 H5=>tk σ4 H5 fun kx H6=>tv σ4 H6 fun y H7=>∃ k,kx=kV k/\zs.length < sizeLine/\N2 (eG zs k y) σ4 H7)))
  (hRR:∀ (C D:Addr) (s':Shared) (H':Hp) (ys:List (Key×V)) (its:List (Key×Value)) (m:Str->Option Value),s2.heap.objs.size<=C->s2.heap.objs.size<=D->D≠C->s'.heap.Ns C m->H' C=none->H' D=none->s'.heap.DictOf (bG X.prog X.w) D its->KV ys its->ys.length<=sizeLine ->
   Inv X pins σ H' s'->Q H' ys->RR (.ref D) C (.ok .next) s') :
  wpAny (model X.prog X.w) X.A newDict (fun acc s₃=>wpAny (model X.prog X.w) X.A (newFunctionEnv scope X.env.globals (cN X.env scope.names []) [] X.env.qual none .none (some X.env)) (fun cenv s₄ =>
   codeAny (model X.prog X.w) X.A (.compStart (.DictComp kx vx [⟨tg,iter,[],0⟩,⟨tg2,iter2,[],0⟩] scope pos) 0 (.ref it) acc { cenv with scope:=relabel scope X.env }) (RR acc cenv.locals) s₄) E s₃) E s2:=by
 obtain ⟨p1,p2,p3,p4,p5,p6,p7⟩:=S.parts
 obtain ⟨W,⟨m0,w0⟩,turn⟩:=w
 refine wpAny_newObj_type (wpAny_newFunctionEnv p2 (by intro y hy; simp at hy) (fun h₁ hns₁ hsb₁=>?_) p1)
 dsimp only at hns₁ hsb₁ ⊢
 generalize hH2:s2.heap.push { cls:=.type "dict",dict:=none,data:=.dict #[] }=HD at hns₁ hsb₁ ⊢
 have hCs:HD.objs.size=s2.heap.objs.size+1:=by rw [<- hH2,Js]
 have hDC:s2.heap.objs.size≠HD.objs.size:=by omega
 have hCle:s2.heap.objs.size<=HD.objs.size:=by omega
 have below:∀ b,b < s2.heap.objs.size->b≠HD.objs.size/\b≠s2.heap.objs.size:=fun b hb=>⟨by omega,by omega⟩
 have old:∀ b o,s2.heap.get? b=some o->h₁.get? b=some o:=fun b o e=>hsb₁.extBut b o (below b (Qm e)).1 (Qb _ (hH2 ▸ Qb _ e))
 have hacc:h₁.get? s2.heap.objs.size=some { cls:=.type "dict",dict:=none,data:=.dict #[] }:=hsb₁.extBut _ _ hDC (Qb _ (hH2 ▸ Qn _ rfl))
 have hdict:h₁.DictOf (bG X.prog X.w) s2.heap.objs.size []:=Heap.DictOf.at (hH2 ▸ Heap.DictOf.new s2.heap:HD.DictOf (bG X.prog X.w) s2.heap.objs.size []) fun o e=>hsb₁.extBut _ _ hDC (Qb _ e)
 have flt:∀ b∈fp,b < s2.heap.objs.size:=fun b hb=>by
  obtain ⟨o,e,_⟩:=T.obj _ _ st2 b hb
  exact Qm e
 generalize hDg:s2.heap.objs.size=D at *
 generalize hCg:HD.objs.size=C at *
 have st3:tn 0 h₁:=T.keep _ _ _ st2 fun b _ o e=>old b o e
 -- facts of the block
 have clsub:∀ x c,(cN X.env scope.names []).lookup x=some c->X.env.cells.lookup x=some c:=fun x c e=>by
  rcases hZ _ _ _ _ (dJ e) with q | q
  ·cases q
  ·exact q
 have cD:∀ x c,(cN X.env scope.names []).lookup x=some c->c≠D:=fun x c e z=>by
  obtain ⟨v,q⟩:=I2.cell x c (clsub x c e)
  exact Qy _ (Qi q.lt (by rw [hDg,z]; exact Qh _))
 have loop:∀ s₃:Shared,s₃={ s2 with heap:=h₁,toks:=s2.toks+([]:List (Str×Value)).length } ->
   codeAny (model X.prog X.w) X.A (.compLoop (.DictComp kx vx [⟨tg,iter,[],0⟩,⟨tg2,iter2,[],0⟩] scope pos) 0 (.ref it) (.ref D) (compEnvC scope (cN X.env scope.names []) C X.env)) (RR (.ref D) C) s₃:=by
  rintro s₃ rfl
  have I3:Inv (aX X scope (own++frn) C s2 H2 fp) [(D,_)] (blk own.length fr σ) H2 { s2 with heap:=h₁,toks:=s2.toks+([]:List (Str×Value)).length } :=
   vK (m:=fun _=>none) I2 S f2 (by rw [hDg]; exact flt) (by rw [hDg]; exact hCle) (hns₁:h₁.Ns C _) old (by rw [hDg]; exact Qh _) hDC hacc (fun v z=>by cases z)
  have stat:∀ {H':Hp} {pl:List (Addr×Obj)},(∀ p∈pl,p.1=D)->(∀ b∈fp,H' b=none)->∀ b∈fp,iL (aX X scope (own++frn) C s2 H2 fp) pl H' b:=fun {H' pl} hpl hn b hb=>by
   refine ⟨hn b hb,(below b (flt b hb)).1,fun z=>?_,.inl hb,fun x c e=>(f2 b hb).2.2.2.2.1 x c (clsub x c e),fun p hp=>?_⟩
   ·have z':b∈frs X.stack:=z
    rcases Ql.mp (I2.stkSub b z') with e | e
    ·exact (f2 b hb).2.1 e
    ·exact (f2 b hb).2.2.1 e
   ·have hp':p∈pl:=by simpa [aX] using hp
    rw [hpl p hp']
    exact Ne.symm (below b (flt b hb)).2
  refine rX (hs2 C) (env:=compEnvC scope (cN X.env scope.names []) C X.env) (fun n s'=>∃ i σ' H' ys its o,Inv (aX X scope (own++frn) C s2 H2 fp) [(D,o)] σ' H' s'/\s'.heap.DictOf (bG X.prog X.w) D its/\KV ys its/\ys.length<=sizeLine/\tn i s'.heap/\(∀ b∈fp,H' b=none)/\W i n ys σ' H') ?_ m0
   ⟨0,_,H2,[],[],_,I3,hdict,.nil,Jf _,st3,fun b hb=>(f2 b hb).1,w0⟩
  rintro n s5 ⟨i,σ5,H5,ys,its,o,I5,pl5,v5,z5,st5,fr5,w5⟩
  have one:∀ {o:Obj},∀ p∈[(D,o)],p.1=D:=fun p hp=>by
   have e:=Qs.mp hp
   rw [e]
  rcases turn i n ys σ5 H5 w5 with ⟨stop,qn⟩ | ⟨go,N,hN,step⟩
  ·refine wpAny_mono (T.done (aX X scope (own++frn) C s2 H2 fp) rfl rfl rfl hc i _ s5 σ5 H5 (fun _ _=>False) I5 (stat one fr5) st5 stop) (fun r s6 hx9=>?_) fun _ _ z=>z
   obtain ⟨hr,I6⟩:=hx9
   subst hr
   obtain ⟨m6,hn6,_⟩:=I6.loc
   have p6:=I6.pin (D,o) (by simp [aX])
   have p5':=I5.pin (D,o) (by simp [aX])
   have pl6:s6.heap.DictOf (bG X.prog X.w) D its:=pl5.at fun o' e=>p6.1.trans (p5'.1.symm.trans e)
   have IX:Inv X pins σ H5 s6:=I2.call' (ch:=fp) I6.os I6.base I6.hok I6.bare fun b hb=>⟨(f2 b hb).2.2.2.1,(f2 b hb).2.1,(f2 b hb).2.2.2.2.1,(f2 b hb).2.2.2.2.2⟩
   exact hRR C D s6 H5 ys its m6 hCle (Qh _) hDC hn6 I6.free p6.2.1 pl6 v5 z5 IX qn
  ·refine wpAny_mono (T.item (aX X scope (own++frn) C s2 H2 fp) rfl rfl rfl hc i _ s5 σ5 H5 (fun _ _=>False) I5 (stat one fr5) st5 go) (fun r s6 hx9=>?_) fun _ _ z=>z
   obtain ⟨u,hr,h6⟩:=hx9
   subst hr
   refine wpAny_mono h6 (fun _ s7 hx9=>?_) fun _ _ z=>z
   obtain ⟨x,H7,I7,r7,y7,st7,fr7⟩:=hx9
   have I7':=I7.pinned (stat one fr7) (T.obj _ _ st7)
   refine wpAny_mono (hg C s2 H2 fp _ s7 σ5 H7 x u _ I7' r7 (step x H7 y7)) (fun _ s8 hx9=>?_) fun _ _ z=>z
   obtain ⟨σ8,H8,I8,q8⟩:=hx9
   refine wpAny_mono (hi2 C s2 H2 fp _ s8 σ8 H8 _ I8 q8) (fun v2 s9 h9=>wpAny_mono h9 (fun itv s10 h10=>?_) fun _ _ z=>z) fun _ _ z=>z
   obtain ⟨it2,fp2,tn2,J2,H10,e10,I10,T2,st10,f10,w10⟩:=h10
   subst e10
   have DfsX:D∉frs X.stack:=fun z=>by
    rcases Ql.mp (I2.stkSub D z) with e | e
    ·exact Qy _ (Qi I2.lt (by rw [hDg,e]; exact Qh _))
    ·exact I2.nofs (by rw [hDg]; exact Qh _) e
   have p5':=I5.pin (D,o) (by simp [aX])
   have pl10:s10.heap.DictOf (bG X.prog X.w) D its:=by
    have p':=I10.pin (D,o) (by simp [aX])
    exact pl5.at fun o' e=>p'.1.trans (p5'.1.symm.trans e)
   refine wG (Y:=aX X scope (own++frn) C s2 H2 fp) (ps:=kT fp s7.heap) (F:=N) (fun _ _ z=>z) hc T2 (hg2 C s2 H2 fp) (hk C s2 H2 fp) (he C s2 H2 fp) hDC (.inr (by show s2.heap.objs.size<=D; rw [hDg]; exact Qh _)) cD (fun p hp=>by simp [aX] at hp) DfsX
    (fun p hp=>(below p.1 (flt p.1 (sG hp).1)).2) I10 pl10 v5 z5 st10 f10 w10 (fun s' σ' H' zs' its' o' I' pl' v' z' q'=>?_)
   obtain ⟨m',hm,w'⟩:=hN zs' σ' H' q'
   refine ⟨m',hm,i+1,σ',H',zs',its',o',I'.pins_of fun p hp=>?_,pl',v',z',T.keep _ _ _ st7 fun b hb o e=>(I'.pin (b,o) (Qo _ (Qq _ (dX hb e)))).1,fun b hb=>?_,w'⟩
   ·have e:=Qs.mp hp
    subst e
    exact I'.pin _ (Qo _ (Qk ..))
   ·obtain ⟨o,e,d⟩:=T.obj _ _ st7 b hb
    exact (I'.pin (b,o) (Qo _ (Qq _ (dX hb e)))).2.1
 exact codeAny_compStart_dict (loop _ rfl) (T.self X.A 0 _ _ _ st3 (loop _ rfl))
theorem aAt (S:CompOk X scope own fr frn) (hc:X.calm=true) (hi:PI X tg iter wi) (hg:∀ C s0 H0 fp,PG (aX X scope (own++frn) C s0 H0 fp) tg g) (hi2:∀ C s0 H0 fp,PI (aX X scope (own++frn) C s0 H0 fp) tg2 iter2 wi2) (hg2:∀ C s0 H0 fp,PG (aX X scope (own++frn) C s0 H0 fp) tg2 g2)
  (hk:∀ C s0 H0 fp,PE (aX X scope (own++frn) C s0 H0 fp) kx tk) (he:∀ C s0 H0 fp,PE (aX X scope (own++frn) C s0 H0 fp) vx tv) (hs:∀ x,foldedSetIterable iter X.env x=pure x:=by intro _; rfl) (hs2:∀ C x,foldedSetIterable iter2 (compEnvC scope (cN X.env scope.names []) C X.env) x=pure x:=by intro _ _; rfl) :
  PE X (.DictComp kx vx [⟨tg,iter,[],0⟩,⟨tg2,iter2,[],0⟩] scope pos) (aCT own.length fr wi g wi2 g2 tk tv):=by
 intro pins s σ H Q I h
 obtain ⟨p1,p2,p3,p4,p5,p6,p7⟩:=S.parts
 rw [arm_eval_DictComp]
 refine wpAny_comprehension_free (use:=none) rfl hs (S.clo I) p1 p3 (thn (hi pins s σ H _ I h) fun v s1 h1=>thn h1 fun itv s2 h2=>?_)
 obtain ⟨it,fp,tn,J,H2,e,I2,T,st2,f2,hw⟩:=h2
 subst e
 refine tV (RR:=fun acc C=>compPost (model X.prog X.w) X.A X.xe none (EP X pins σ Q) acc C) (Q:=fun H ys=>∀ p,H p=none->Q (.ref p) (upd H p (.dK ys))) S hc I2 T st2 f2 hg hi2 hg2 hk he hs2 hw ?_
 intro C D s' H' ys its m hC hD hDC hns hHC hHD pl v z IX q
 have cne:∀ a,s2.heap.objs.size<=a->∀ x c,X.env.cells.lookup x=some c->c≠a:=fun a ha x c e z=>by
  obtain ⟨v,w⟩:=I2.cell x c e
  exact Qy _ (Qi w.lt (by rw [z]; exact ha))
 have pne:∀ a,s2.heap.objs.size<=a->∀ p∈X.pn++pins,p.1≠a:=fun a ha p hp z=>Qy _ (Qi (Qm (I2.pin p hp).1) (by rw [z]; exact ha))
 have lne:∀ a,s2.heap.objs.size<=a->a≠X.env.locals:=fun a ha z=>Qy _ (Qi I2.lt (by rw [<- z]; exact ha))
 refine ⟨m,hns,fun h' hs'=>⟨.ref D,upd H' D (.dK ys),?_,rfl,q D hHD⟩⟩
 have IT:Inv X pins σ (upd H' D (.dK ys)) s':=IX.trackD pl v z (beq_eq_false_iff_ne.mpr fun e=>Qy _ (Qi I2.big (by rw [<- e]; exact hD))) hHD (lne D hD) (Qt I2.sz hD) (cne D hD) (pne D hD)
 exact IT.turned (t':=s'.toks) (it:=C) (fun b o hb e=>(hs'.2 b hb).trans e) (by rw [aG (Ne.symm hDC)]; exact hHC) (lne C hC) (.inr (Qt I2.sz hC)) (cne C hC) (pne C hC)
end
section
variable {K:PySem.W.Frag} {own:Nat} {fr:List Nat} {g:TG} {wi2:TI} {g2:TG} {tk tv:TE} {σ:St} {H:Hp} {Q:Hp->List (Key×V)->Prop}
theorem wH {a:Addr} {xs:List V} (Pv:Nat->List (Key×V)->St->Hp->Prop) (h0:Pv 0 [] (blk own fr σ) H) (hl:∀ i ys σ H,Pv i ys σ H->SqL K H a xs)
  (hs:∀ i x ys σ H,xs[i]?=some x->Pv i ys σ H->g x σ H fun σ2 H2=>wi2 σ2 H2 fun J2 H3=>∃ W2:Nat->Nat->List (Key×V)->St->Hp->Prop,(∃ m2,W2 0 m2 ys σ2 H3)/\∀ j m2 zs σ3 H4,W2 j m2 zs σ3 H4->(J2.stop j H4/\Pv (i+1) zs σ3 H4)∨(J2.go j H4/\∃ N2:List (Key×V)->St->Hp->Prop,(∀ zs' σ4 H5,N2 zs' σ4 H5->∃ m3,m3 < m2/\W2 (j+1) m3 zs' σ4 H5) /\
     ∀ x H',J2.yld j H4 x H'->g2 x σ3 H' fun σ4 H5=>tk σ4 H5 fun kx H6=>tv σ4 H6 fun y H7=>∃ k,kx=kV k/\zs.length < sizeLine/\N2 (eG zs k y) σ4 H7))
  (hd:∀ ys σ H,Pv xs.length ys σ H->Q H ys) :
  ∃ W:Nat->Nat->List (Key×V)->St->Hp->Prop,(∃ m,W 0 m [] (blk own fr σ) H)/\∀ i m ys σ' H,W i m ys σ' H ->
   ((Itl K a).stop i H/\Q H ys) ∨
   ((Itl K a).go i H/\∃ N:List (Key×V)->St->Hp->Prop,(∀ ys' σ2 H2,N ys' σ2 H2->∃ m',m' < m/\W (i+1) m' ys' σ2 H2) /\
    ∀ x H',(Itl K a).yld i H x H'->g x σ' H' fun σ2 H2=>wi2 σ2 H2 fun J2 H3=>∃ W2:Nat->Nat->List (Key×V)->St->Hp->Prop,(∃ m2,W2 0 m2 ys σ2 H3)/\∀ j m2 zs σ3 H4,W2 j m2 zs σ3 H4->(J2.stop j H4/\N zs σ3 H4)∨(J2.go j H4/\∃ N2:List (Key×V)->St->Hp->Prop,(∀ zs' σ4 H5,N2 zs' σ4 H5->∃ m3,m3 < m2/\W2 (j+1) m3 zs' σ4 H5) /\
     ∀ x H',J2.yld j H4 x H'->g2 x σ3 H' fun σ4 H5=>tk σ4 H5 fun kx H6=>tv σ4 H6 fun y H7=>∃ k,kx=kV k/\zs.length < sizeLine/\N2 (eG zs k y) σ4 H7)):=by
 refine ⟨fun i m ys σ' H=>m=xs.length - i/\i<=xs.length/\Pv i ys σ' H,⟨xs.length,by simp,Jf _,h0⟩,?_⟩
 rintro i m ys σ' H ⟨rfl,hi,p⟩
 have q:=hl _ _ _ _ p
 by_cases hlt:i < xs.length
 ·refine .inr ⟨⟨xs,xs[i],q,Qc hlt⟩,Pv (i+1),fun ys' σ2 H2 p'=>⟨xs.length - (i+1),by omega,rfl,hlt,p'⟩,fun x H' y=>?_⟩
  obtain ⟨e,y⟩:=y
  subst e
  exact hs i x ys σ' _ (y xs q) p
 ·have e:i=xs.length:=by omega
  subst e
  exact .inl ⟨⟨xs,q,Qh _⟩,hd _ _ _ p⟩
theorem tW {b:Addr} {zs:List V} {ys:List (Key×V)} {σ2:St} {H3:Hp} {N:List (Key×V)->St->Hp->Prop} (Pw:Nat->List (Key×V)->St->Hp->Prop) (h0:Pw 0 ys σ2 H3) (hl:∀ j ys σ H,Pw j ys σ H->SqT K H b zs)
  (hs:∀ j z ys σ H,zs[j]?=some z->Pw j ys σ H->g2 z σ H fun σ4 H5=>tk σ4 H5 fun kx H6=>tv σ4 H6 fun y H7=>∃ k,kx=kV k/\ys.length < sizeLine/\Pw (j+1) (eG ys k y) σ4 H7) (hd:∀ ys σ H,Pw zs.length ys σ H->N ys σ H) :
  ∃ W2:Nat->Nat->List (Key×V)->St->Hp->Prop,(∃ m2,W2 0 m2 ys σ2 H3)/\∀ j m2 zs σ3 H4,W2 j m2 zs σ3 H4->((Itt K b).stop j H4/\N zs σ3 H4)∨((Itt K b).go j H4/\∃ N2:List (Key×V)->St->Hp->Prop,(∀ zs' σ4 H5,N2 zs' σ4 H5->∃ m3,m3 < m2/\W2 (j+1) m3 zs' σ4 H5) /\
     ∀ x H',(Itt K b).yld j H4 x H'->g2 x σ3 H' fun σ4 H5=>tk σ4 H5 fun kx H6=>tv σ4 H6 fun y H7=>∃ k,kx=kV k/\zs.length < sizeLine/\N2 (eG zs k y) σ4 H7):=by
 refine ⟨fun j m ys σ H=>m=zs.length - j/\j<=zs.length/\Pw j ys σ H,⟨zs.length,by simp,Jf _,h0⟩,?_⟩
 rintro j m ys σ H ⟨rfl,hj,p⟩
 have q:=hl _ _ _ _ p
 by_cases hlt:j < zs.length
 ·refine .inr ⟨⟨zs,zs[j],q,Qc hlt⟩,Pw (j+1),fun ys' σ2 H2 p'=>⟨zs.length - (j+1),by omega,rfl,hlt,p'⟩,fun x H' y=>?_⟩
  obtain ⟨e,y⟩:=y
  subst e
  exact hs j x ys σ _ (y zs q) p
 ·have e:j=zs.length:=by omega
  subst e
  exact .inl ⟨⟨zs,q,Qh _⟩,hd _ _ _ p⟩
end
def aFa:V->List V->Hp->VK->Prop:=fun x vs H Q=>∃ (a:Addr) (kvs:List (Key×V)) (k:Key) (df:V),x=.ref a/\vs = [kV k,df]/\Rd H a (.dK kvs)/\Q ((bY kvs k).getD df) H
theorem yZ {X:Cx}:MtR X "dict.get" aFa:=by
 intro pins s σ H x vs v us Q I rx rv h
 obtain ⟨a,kvs,k,df,rfl,rfl,e,q⟩:=h
 cases rx
 obtain ⟨u,ud,rfl,ru,rd⟩:=lX rv
 obtain ⟨z,hd,xs,rel,dd⟩:=vY I.hok e
 exact call_meetsIn PySem.F.slot_dict_get dd.typeIs PySem.F.entry_dict_get (PySem.F.args_dict_get_3 _ _ _) (meets_dict_get_default (bG X.prog X.w) a (pX ru) hd ud) ⟨_,dd.mapOf,_,H,I.tok _,(rel.val k).getD rd,q⟩
section
variable {prog:Program} {w:World} {A:Around} {E:Value->Shared->Prop} {s:Shared} {z TI TO i1 i2 i3 l1 l2 l3:Addr} {n n2 n3:Nat} {P1 P2 P3:Nat->Value->Prop} {st1 st2 st3:Nat->Heap->Prop}
end
structure ZSt3 (k1 k2 k3:Sk) (z TI TO i1 i2 i3 l1 l2 l3:Addr) (i:Nat) (h:Heap):Prop where
 zp:∃ f0 f1,F0 f0/\gF h z TI TO f0 f1
 ti:aDz h TI (.ref i1) (.ref i2) (.ref i3)
 to:∃ x y v,aDz h TO x y v
 a1:ItK k1 h i1 l1 i
 a2:ItK k2 h i2 l2 i
 a3:ItK k3 h i3 l3 i
theorem ZSt3.keep {k1 k2 k3:Sk} {z TI TO i1 i2 i3 l1 l2 l3:Addr} {i:Nat} {h h':Heap} (st:ZSt3 k1 k2 k3 z TI TO i1 i2 i3 l1 l2 l3 i h) (k:∀ c∈[z,TI,TO,i1,i2,i3],∀ o,h.get? c=some o->h'.get? c=some o):ZSt3 k1 k2 k3 z TI TO i1 i2 i3 l1 l2 l3 i h':=by
 obtain ⟨⟨f0,f1,hf,hz⟩,hTI,⟨x,y,v,hTO⟩,h1,h2,h3⟩:=st
 exact ⟨⟨f0,f1,hf,k z (by simp) _ hz⟩,k TI (by simp) _ hTI,⟨x,y,v,k TO (by simp) _ hTO⟩,h1.at fun o e=>k i1 (by simp) o e,h2.at fun o e=>k i2 (by simp) o e,h3.at fun o e=>k i3 (by simp) o e⟩
theorem ZSt3.lt {k1 k2 k3:Sk} {z TI TO i1 i2 i3 l1 l2 l3:Addr} {i:Nat} {h:Heap} (st:ZSt3 k1 k2 k3 z TI TO i1 i2 i3 l1 l2 l3 i h):∀ c∈[z,TI,TO,i1,i2,i3],c < h.objs.size:=by
 intro c hc
 obtain ⟨⟨f0,f1,hf,hz⟩,hTI,⟨x,y,v,hTO⟩,h1,h2,h3⟩:=st
 simp only [Ql,Ja,or_false] at hc
 rcases hc with rfl | rfl | rfl | rfl | rfl | rfl
 ·exact Qm hz
 ·exact Qm hTI
 ·exact Qm hTO
 ·obtain ⟨o,e,_⟩:=h1.obj; exact Qm e
 ·obtain ⟨o,e,_⟩:=h2.obj; exact Qm e
 ·obtain ⟨o,e,_⟩:=h3.obj; exact Qm e
section
variable {X:Cx} {pins:List (Addr×Obj)} {σ:St}
end
structure Fn (K:PySem.W.Frag) (mg:Str->Option Value) (x:Str) (st:Stmt) (ps:List Str) (f:Addr) (fd:FuncData):Prop where
 fn:Fun K x x st f fd
 mgx:mg x=some (.ref f)
 kp:PySem.W.keepIn K (.ref f)=true
 bd:sI K fd ps []
theorem bK {X:Cx} {x:Str} {st:Stmt} {ps:List Str} {f:Addr} {fd:FuncData} {k:Nat} {sp:Sp} {p pos:Pos} {e:Expr} {es:List Expr} {t:TA} (G:Fn X.K X.mg x st ps f fd) (ok:FnOk X.prog X.w X.K X.mg X.base CX0 k f fd ps sp) (hr:Room k X.A) (hg:Gl X x) (ha:PA X (e::es) t)
  (hdb:(x==("__debug__" : Str))=false:=by decide) (he:starEach (e::es) X.env=(false,eval e X.env)::starEach es X.env:=by rfl) (hpl:(backTo pos (starEach es X.env)).any (·.1)=false:=by rfl) :
  PE X (.Call (.Name x p) (e::es) [] pos) (aDv sp [] E0 t):=aCt ok hr hg G.mgx G.kp G.bd .nil aET ha hdb he hpl
structure Bl (mg:Str->Option Value):Prop where
 isinstance:mg "isinstance" = none
 int:mg "int" = none
 bool:mg "bool" = none
 tuple:mg "tuple" = none
 list:mg "list" = none
 len:mg "len" = none
 all:mg "all" = none
 zip:mg "zip" = none
 range:mg "range" = none
 sorted:mg "sorted" = none
 set:mg "set" = none
 sum:mg "sum" = none
 repr:mg "repr" = none
 max:mg "max" = none
 min:mg "min" = none
 any:mg "any" = none
 enumerate:mg "enumerate" = none
 hands:∃ t,mg "MOST_HANDS" = some (.int 6 t)
 works:∃ t,mg "MOST_WORKS" = some (.int 12 t)
 mw:∃ t,mg "MOST_WEIGHT" = some (.int 99 t)
 un:∃ t,mg "UNITS" = some (.int 60 t)
theorem kS:bootBuiltins "isinstance" = some (.builtin "isinstance"):=by decide +kernel
theorem aDA:bootBuiltins "int" = some (.type "int"):=by decide +kernel
theorem aBA:bootBuiltins "bool" = some (.type "bool"):=by decide +kernel
theorem cX:bootBuiltins "tuple" = some (.type "tuple"):=by decide +kernel
theorem qD:bootBuiltins "list" = some (.type "list"):=by decide +kernel
theorem gG:bootBuiltins "len" = some (.builtin "len"):=by decide +kernel
theorem aBB:bootBuiltins "all" = some (.builtin "all"):=by decide +kernel
theorem zC:bootBuiltins "range" = some (.type "range"):=by decide +kernel
theorem mS:bootBuiltins "sorted" = some (.builtin "sorted"):=by decide +kernel
theorem aFb:bootBuiltins "sum" = some (.builtin "sum"):=by decide +kernel
theorem aBC:bootBuiltins "repr" = some (.builtin "repr"):=by decide +kernel
end L2
namespace Ab
open PySem L2
def top (i:Nat):Stmt:=PySem.Challenge.pw_ablehands_k24_whole_blocks_and_loads.main.body.getD i (.Pass ⟨0,0,0,0⟩)
abbrev mG:Stmt:=top 7
abbrev qE:Stmt:=top 8
abbrev qF:Stmt:=top 9
abbrev qG:Stmt:=top 10
abbrev xQ:Stmt:=top 11
abbrev oZ:Stmt:=top 13
abbrev mT:Stmt:=top 14
abbrev zD:Stmt:=top 15
abbrev qH:Stmt:=top 18
abbrev pA:Stmt:=top 19
abbrev lL:Stmt:=top 21
abbrev wI:Stmt:=top 22
abbrev jU:Stmt:=top 23
abbrev gQ:Stmt:=top 24
abbrev tX:Stmt:=top 25
abbrev mU:Stmt:=top 27
abbrev tY:Stmt:=top 28
abbrev qI:Stmt:=top 31
abbrev jH:Stmt:=top 32
abbrev kH:Stmt:=top 33
abbrev nY:Stmt:=top 34
abbrev gH:Stmt:=top 35
abbrev zE:Stmt:=top 37
abbrev zF:Stmt:=top 38
abbrev lM:Stmt:=top 39
abbrev mV:Stmt:=top 40
abbrev wJ:Stmt:=top 41
abbrev mW:Stmt:=top 42
abbrev qJ:Stmt:=top 43
abbrev aBD:Stmt:=top 44
abbrev qK:Stmt:=top 45
abbrev tZ:Stmt:=top 46
abbrev lN:Stmt:=top 47
abbrev kI:Stmt:=top 48
abbrev oV:Stmt:=top 49
def jI:PyData->Bool
 | .int _=>true
 | _=>false
def iX:PyData->Bool
 | .int i=>decide (1<=i) && decide (i<=6)
 | _=>false
def eW (hands:Int):Int->List PyData->Bool
 | _,[]=>true
 | last,.int i::r=>decide (last < i) && decide (i < hands) && eW hands i r
 | _,_::_=>false
def cZ (hands:Int):PyData->Bool
 | .tuple ds=>!ds.isEmpty && eW hands (-1) ds
 | _=>false
def aEd:PyData->PyData->Bool
 | .int h,.tuple ws=>decide (1<=h) && decide (h<=6) && decide (ws.length<=12) && ws.all (cZ h)
 | _,_=>false
def dE:PyData->Bool
 | .tuple [dh,dw]=>aEd dh dw
 | _=>false
section
variable {P:Program} {w:World} {K:PySem.W.Frag} {mg:Str->Option Value} {base:Heap}
def pB (K:PySem.W.Frag):Sp:=fun vs H Q _=>∃ x d,vs = [x]/\Den K H d x/\Q (.bl (jI d)) H
theorem aCU:FnScope ["thing"] ["thing"] (aF mG):=⟨rfl,rfl,rfl,by decide +kernel,rfl,by decide +kernel,by decide +kernel⟩
theorem qL {f:Addr} {fd:FuncData} (G:Fn K mg "is_whole" mG ["thing"] f fd) (B:Bl mg):FnOk P w K mg base CX0 1 f fd ["thing"] (pB K):=by
 refine G.fn.ok aCU (fun vs H Q E h=>?_) (fun cdv A outer s H vs Q E hr h=>?_)
 ·obtain ⟨x,d,rfl,_⟩:=h
  rfl
 ·obtain ⟨x,d,rfl,hd,k⟩:=h
  refine ⟨_,aI (aT (nP (aP mL rfl B.isinstance kS (aA (pv 0) (aA (gJ (v:=.ty "int") rfl B.int aDA rfl) aD)))
   (nO (aAY (aP lZ rfl B.isinstance kS (aA (pv 0) (aA (gJ (v:=.ty "bool") rfl B.bool aBA rfl) aD))))))),?_⟩
  refine ⟨_,rfl,x,mE d,rfl,hd.kd,_,rfl,?_⟩
  refine iM (fun c=>?_) (fun c=>?_)
  ·refine ⟨_,rfl,x,mE d,rfl,hd.kd,_,rfl,?_⟩
   have e:(!decide (mE d=Kd.bl))=jI d:=by
    cases d <;> first | rfl | (exfalso; simp [mE] at c)
   rw [e]
   exact k
  ·have e:false=jI d:=by
    cases d <;> first | rfl | (exfalso; simp [mE] at c)
   rw [e]
   exact k
def zG (K:PySem.W.Frag):Sp:=fun vs H Q _=>∃ x d,vs = [x]/\Den K H d x/\Q (.bl (iX d)) H
theorem aCV:FnScope ["thing"] ["thing"] (aF qE):=⟨rfl,rfl,rfl,by decide +kernel,rfl,by decide +kernel,by decide +kernel⟩
theorem aBE {f fW:Addr} {fd fdW:FuncData} (G:Fn K mg "are_hands" qE ["thing"] f fd) (B:Bl mg) (W:Fn K mg "is_whole" mG ["thing"] fW fdW):FnOk P w K mg base CX0 2 f fd ["thing"] (zG K):=by
 have GW:FnOk P w K mg base CX0 1 fW fdW ["thing"] (pB K):=qL W B
 obtain ⟨t6,h6⟩:=B.hands
 refine G.fn.ok aCV (fun vs H Q E h=>?_) (fun cdv A outer s H vs Q E hr h=>?_)
 ·obtain ⟨x,d,rfl,_⟩:=h
  rfl
 ·obtain ⟨x,d,rfl,hd,k⟩:=h
  refine ⟨_,aI (aT (nP (bK W GW hr rfl (aA (pv 0) aD))
   (nO (vC sH sH aH (pv 0) (lH (v:=.int 6) rfl h6 ⟨t6,rfl⟩))))),?_⟩
  refine ⟨_,rfl,x,d,rfl,hd,_,rfl,?_⟩
  refine iM (fun c=>?_) (fun c=>?_)
  ·obtain ⟨i,rfl⟩:∃ i,d=.int i:=by cases d <;> first | exact ⟨_,rfl⟩ | (exfalso; simp [jI] at c)
   obtain rfl:=dM.mp hd
   refine ⟨_,rfl,_,_,rfl,rfl,_,rfl,?_⟩
   refine iM (fun c1=>?_) (fun c1=>?_)
   ·refine ⟨_,_,rfl,rfl,?_⟩
    have e:decide (i<=6)=iX (.int i):=by
     show _=(decide (1<=i) && decide (i<=6))
     rw [c1,Xr]
    show Q (.bl (decide (i<=6))) H
    rw [e]; exact k
   ·have e:false=iX (.int i):=by
     show _=(decide (1<=i) && decide (i<=6))
     have c2:decide (1<=i)=false:=by simpa using c1
     rw [c2,Yc]
    rw [e]; exact k
  ·have e:false=iX d:=by cases d <;> first | rfl | (exfalso; simp [jI] at c)
   rw [e]; exact k
theorem iI (h l i:Int) (r:List PyData):eW h l (.int i::r)=(decide (l < i) && decide (i < h) && eW h i r):=by rw [eW]
theorem qM (h l:Int) (d:PyData) (r:List PyData) (n:jI d=false):eW h l (d::r)=false:=by
 cases d <;> first | rfl | (simp [jI] at n)
def zH (K:PySem.W.Frag):Sp:=fun vs H Q _=>∃ n x d,vs = [.int n,x]/\Den K H d x/\Q (.bl (cZ n d)) H
theorem pC:FnScope ["hands", "thing", "last", "hand"] ["hands", "thing"] (aF qF):=⟨rfl,rfl,rfl,by decide +kernel,rfl,by decide +kernel,by decide +kernel⟩
theorem aBF {f fW:Addr} {fd fdW:FuncData} (G:Fn K mg "is_work" qF ["hands", "thing"] f fd) (B:Bl mg) (W:Fn K mg "is_whole" mG ["thing"] fW fdW):FnOk P w K mg base CX0 2 f fd ["hands", "thing"] (zH K):=by
 have GW:FnOk P w K mg base CX0 1 fW fdW ["thing"] (pB K):=qL W B
 refine G.fn.ok pC (fun vs H Q E h=>?_) (fun cdv A outer s H vs Q E hr h=>?_)
 ·obtain ⟨n,x,d,rfl,_⟩:=h
  rfl
 ·obtain ⟨n,x,d,rfl,hd,k⟩:=h
  refine ⟨_,aE (cY (PW.pt (iJ (eZ (eD (aP cS rfl B.isinstance kS (aA (pv 1) (aA (gJ (v:=.ty "tuple") rfl B.tuple cX rfl) aD)))))
    (iR (aW pK (aP aU rfl B.len gG (aA (pv 1) aD)) aH (bJ _))))) (aI (aT eX)) bO)
   (aE (aS (i:=2) pC.nd rfl (Or.inl rfl) (yI tK aH))
   (aE (fE PassesOwn.never rfl (gM (pv 1)) (aM (i:=3) pC.nd rfl (Or.inl rfl))
    (aE (cY (PW.pt (iJ (eZ (eD (bK W GW hr rfl (aA (pv 3) aD)))) (iJ (aW sH (pv 3) (pv 2) (bJ _)) (iR (aW aA3 (pv 3) (pv 0) (bJ _)))))) (aI (aT eX)) bO)
    (aI (aS (i:=2) pC.nd rfl (Or.inl rfl) (pv 3)))))
   (aI (aT eX)))),?_⟩
  refine ⟨_,rfl,x,mE d,rfl,hd.kd,_,rfl,?_⟩
  refine iM (fun c=>?_) (fun c=>?_)
  ·-- not a tuple
   refine iT ?_
   have e:false=cZ n d:=by
    cases d <;> first | rfl | (exfalso; simp [mE] at c)
   rw [e]; exact k
  ·obtain ⟨ds,rfl⟩:∃ ds,d=.tuple ds:=by cases d <;> first | exact ⟨_,rfl⟩ | (exfalso; simp [mE] at c)
   obtain ⟨a,xs,rfl,ha,hds⟩:=bV.mp hd
   have hl:=aK hds
   refine ⟨_,rfl,a,xs,rfl,.inr ha,rfl,_,rfl,?_⟩
   refine iM (fun c2=>?_) (fun c2=>?_)
   ·have e:false=cZ n (.tuple ds):=by
     have e1:ds = []:=by
      have:(xs.length:Int)=0:=by simpa using c2
      exact Za.mp (by omega)
     rw [e1]; rfl
    rw [e]; exact k
   ·have hne:ds≠[]:=by
     intro z
     apply c2
     rw [z] at hl
     simp [hl]
    have e0:cZ n (.tuple ds)=eW n (-1) ds:=by
     show (!ds.isEmpty && eW n (-1) ds)=_
     cases ds with
     | nil=>exact absurd rfl hne
     | cons _ _=>rfl
    rw [e0] at k
    refine ⟨_,rfl,?_⟩
    refine ⟨_,rfl,a,rfl,⟨xs,ha⟩,aCr (K:=K) (a:=a) (xs:=xs) (fun i σ H2=>∃ (last:Int) (v:Option V),σ = [some (.int n),some (.ref a),some (.int last),v]/\H2=H/\eW n (-1) ds=eW n last (ds.drop i))
     ⟨-1,none,rfl,rfl,rfl⟩ (fun i σ H2 _ ⟨_,_,_,e,_⟩=>by rw [e]; exact ha) ?_ ?_⟩
    ·rintro i y σ H2 hi ⟨last,v,rfl,rfl,hr2⟩
     obtain ⟨dy,hdy,hden⟩:=jS hds hi
     have hdrop:ds.drop i=dy::ds.drop (i+1):=by
      obtain ⟨hlt,e⟩:=Qd.mp hdy
      rw [Yw hlt,e]
     rw [hdrop] at hr2
     refine ⟨_,rfl,y,dy,rfl,hden,_,rfl,?_⟩
     refine iM (fun c3=>?_) (fun c3=>?_)
     ·refine iT ?_
      have e:false=eW n (-1) ds:=by rw [hr2,qM]; simpa using c3
      rw [e]; exact k
     ·obtain ⟨j,rfl⟩:∃ j,dy=.int j:=by cases dy <;> first | exact ⟨_,rfl⟩ | (exfalso; simp [jI] at c3)
      obtain rfl:=dM.mp hden
      rw [iI] at hr2
      refine ⟨_,rfl,_,rfl,_,_,rfl,rfl,_,rfl,?_⟩
      refine iM (fun c4=>?_) (fun c4=>?_)
      ·refine iT ?_
       have c4':j<=last:=of_decide_eq_true c4
       have e:false=eW n (-1) ds:=by rw [hr2,decide_eq_false (by omega:¬ last < j)]; rfl
       rw [e]; exact k
      ·have c4':¬ j<=last:=fun z=>c4 (decide_eq_true z)
       refine ⟨_,rfl,_,rfl,_,_,rfl,rfl,_,rfl,?_⟩
       refine iM (fun c5=>?_) (fun c5=>?_)
       ·have c5':n<=j:=of_decide_eq_true c5
        have e:false=eW n (-1) ds:=by rw [hr2,decide_eq_false (by omega:¬ j < n),Bool.and_false]; rfl
        rw [e]; exact k
       ·have c5':¬ n<=j:=fun z=>c5 (decide_eq_true z)
        refine ⟨_,rfl,j,some (.int j),rfl,rfl,?_⟩
        rw [hr2,decide_eq_true (by omega:last < j),decide_eq_true (by omega:j < n)]
        rfl
    ·rintro σ H2 ⟨last,v,rfl,rfl,hr2⟩
     have e:true=eW n (-1) ds:=by
      rw [hr2,hl,List.drop_length]
      rfl
     show Q (.bl true) _
     rw [e]; exact k
theorem iY {i:Nat} {x:V} {σ:St} {H:Hp} {A B:St->Hp->Prop} (h:A (σ.set i (some x)) H):dY i x σ H fun σ2 H2=>aBb σ2 H2 fun b H3=>if b=true then A σ2 H3 else B σ2 H3:=by
 show if true=true then A (σ.set i (some x)) H else B (σ.set i (some x)) H
 exact iT h
def zI (K:PySem.W.Frag):Sp:=fun vs H Q _=>∃ x d,vs = [x]/\Den K H d x/\∀ H',aC H H'->Q (.bl (dE d)) H'
theorem uA:FnScope ["thing", "hands", "works"] ["thing"] (aF qG):=⟨rfl,rfl,rfl,by decide +kernel,rfl,by decide +kernel,by decide +kernel⟩
theorem aBG {f fW fH fK:Addr} {fd fdW fdH fdK:FuncData} (G:Fn K mg "is_book" qG ["thing"] f fd) (B:Bl mg) (W:Fn K mg "is_whole" mG ["thing"] fW fdW) (GH:Fn K mg "are_hands" qE ["thing"] fH fdH) (GK:Fn K mg "is_work" qF ["hands", "thing"] fK fdK):FnOk P w K mg base CX0 3 f fd ["thing"] (zI K):=by
 have OH:FnOk P w K mg base CX0 2 fH fdH ["thing"] (zG K):=aBE GH B W
 have OK:FnOk P w K mg base CX0 2 fK fdK ["hands", "thing"] (zH K):=aBF GK B W
 obtain ⟨t12,h12⟩:=B.works
 refine G.fn.ok uA (fun vs H Q E h=>?_) (fun cdv A outer s H vs Q E hr h=>?_)
 ·obtain ⟨x,d,rfl,_⟩:=h
  rfl
 ·obtain ⟨x,d,rfl,hd,k⟩:=h
  refine ⟨_,aE (cY (PW.pt (iJ (eZ (eD (aP cS rfl B.isinstance kS (aA (pv 0) (aA (gJ (v:=.ty "tuple") rfl B.tuple cX rfl) aD)))))
    (iR (aW vB (aP aU rfl B.len gG (aA (pv 0) aD)) aH (bJ _))))) (aI (aT eX)) bO)
   (aE (tJ (pv 0) (kD rfl (aV (aM (i:=1) uA.nd rfl (Or.inr rfl)) (aV (aM (i:=2) uA.nd rfl (Or.inl rfl)) eA))))
   (aE (cY (eZ (eD (bK GH OH hr rfl (aA (pv 1) aD)))) (aI (aT eX)) bO)
   (aE (cY (PW.pt (iJ (eZ (eD (aP cS rfl B.isinstance kS (aA (pv 2) (aA (gJ (v:=.ty "tuple") rfl B.tuple cX rfl) aD)))))
    (iR (aW oM (aP aU rfl B.len gG (aA (pv 2) aD)) (lH (v:=.int 12) rfl h12 ⟨t12,rfl⟩) (bJ _))))) (aI (aT eX)) bO)
   (aI (aT (aP (pQ rfl) rfl B.all aBB (aA
    (bR (own:=["work"]) (fr:=[1]) (frn:=["hands"]) (aR (aF qG) ["thing", "hands", "works"] rfl rfl (by decide +kernel)) rfl (gM (pv 2))
     (fun _ _ _ _=>aM (i:=0) (show (["work", "hands"]:List Str).Nodup by decide +kernel) rfl (Or.inl rfl)) (fun _ _ _ _=>cI) (fun _ _ _ _=>bK GK OK hr rfl (aA (pv 1) (aA (pv 0) aD)))) aD))))))),?_⟩
  refine ⟨_,rfl,x,mE d,rfl,hd.kd,_,rfl,?_⟩
  refine iM (fun c=>?_) (fun c=>?_)
  ·refine iT ?_
   have e:false=dE d:=by
    cases d <;> first | rfl | (exfalso; simp [mE] at c)
   rw [e]; exact k H (aC.refl H)
  ·obtain ⟨ds,rfl⟩:∃ ds,d=.tuple ds:=by cases d <;> first | exact ⟨_,rfl⟩ | (exfalso; simp [mE] at c)
   obtain ⟨a,xs,rfl,ha,hds⟩:=bV.mp hd
   have hl:=aK hds
   refine ⟨_,rfl,a,xs,rfl,.inr ha,rfl,_,rfl,?_⟩
   refine iM (fun c2=>?_) (fun c2=>?_)
   ·have e:false=dE (.tuple ds):=by
     match ds,hl,c2 with
     | [],_,_=>rfl
     | [_],_,_=>rfl
     | [_,_],hl,c2=>exfalso; rw [hl] at c2; simp at c2
     | _::_::_::_,_,_=>rfl
    rw [e]; exact k H (aC.refl H)
   ·obtain ⟨dh,dw,rfl⟩:∃ dh dw,ds = [dh,dw]:=by
     match ds,hl,c2 with
     | [],hl,c2=>exfalso; rw [hl] at c2; simp at c2
     | [_],hl,c2=>exfalso; rw [hl] at c2; simp at c2
     | [p,q],_,_=>exact ⟨p,q,rfl⟩
     | p::q::r::t,hl,c2=>exfalso; apply c2; rw [hl]; simp; omega
    obtain ⟨xh,r1,rfl,hh,h2⟩:=aJ.mp hds
    obtain ⟨xw,r2,rfl,hw,h3⟩:=aJ.mp h2
    obtain rfl:=aL.mp h3
    -- hands,works=thing
    refine ⟨_,rfl,a,_,rfl,ha,rfl,_,_,rfl,_,_,rfl,rfl,?_⟩
    -- are_hands(hands)
    refine ⟨_,rfl,xh,dh,rfl,hh,_,rfl,?_⟩
    refine iM (fun c3=>?_) (fun c3=>?_)
    ·have e:false=dE (.tuple [dh,dw]):=by
      have c3':iX dh=false:=by simpa using c3
      cases dh with
      | int n =>
       cases dw with
       | tuple ws =>
        have c4:(decide (1<=n) && decide (n<=6))=false:=c3'
        show _=(decide (1<=n) && decide (n<=6) && decide (ws.length<=12) && ws.all (cZ n))
        rw [c4]; rfl
       | _=>rfl
      | _=>rfl
     rw [e]; exact k H (aC.refl H)
    ·obtain ⟨n,rfl,hn⟩:∃ n,dh=.int n/\(decide (1<=n) && decide (n<=6))=true:=by
      cases dh <;> first | exact ⟨_,rfl,by simpa [iX] using c3⟩ | (exfalso; simp [iX] at c3)
     obtain rfl:=dM.mp hh
     refine ⟨_,rfl,xw,mE dw,rfl,hw.kd,_,rfl,?_⟩
     refine iM (fun c5=>?_) (fun c5=>?_)
     ·refine iT ?_
      have e:false=dE (.tuple [.int n,dw]):=by
       cases dw <;> first | rfl | (exfalso; simp [mE] at c5)
      rw [e]; exact k H (aC.refl H)
     ·obtain ⟨ws,rfl⟩:∃ ws,dw=.tuple ws:=by cases dw <;> first | exact ⟨_,rfl⟩ | (exfalso; simp [mE] at c5)
      obtain ⟨b,ys,rfl,hb,hws⟩:=bV.mp hw
      have hlw:=aK hws
      have eB:dE (.tuple [.int n,.tuple ws])=(decide (ws.length<=12) && ws.all (cZ n)):=by
       show (decide (1<=n) && decide (n<=6) && decide (ws.length<=12) && ws.all (cZ n))=_
       rw [hn,Xr]
      rw [eB] at k
      refine ⟨_,rfl,b,ys,rfl,.inr hb,_,_,rfl,rfl,_,rfl,?_⟩
      refine iM (fun c6=>?_) (fun c6=>?_)
      ·have c6':(12:Int) < ys.length:=of_decide_eq_true c6
       have e:false=(decide (ws.length<=12) && ws.all (cZ n)):=by rw [decide_eq_false (by omega:¬ ws.length<=12)]; rfl
       rw [e]; exact k H (aC.refl H)
      ·have c6':¬ (12:Int) < ys.length:=fun z=>c6 (decide_eq_true z)
       have e1:decide (ws.length<=12)=true:=decide_eq_true (by omega)
       rw [e1,Xr] at k
       refine ⟨_,rfl,b,rfl,⟨ys,hb⟩,iB (K:=K) (a:=b) (xs:=ys) (fun σ=>∃ v,σ = [v,some (.int n)]) (fun i zs H2=>H2=H/\zs=((ws.take i).map (cZ n)).map V.bl) ?_ ⟨none,rfl⟩ ⟨rfl,rfl⟩ ?_ ?_ ?_ ?_⟩
       ·rw [sizeLine_eq]; omega
       ·rintro i zs H2 ⟨_,rfl⟩
        rw [Qa,Qa,Jd]; omega
       ·rintro i zs H2 ⟨rfl,_⟩
        exact hb
       ·rintro i zs σ x H2 hx ⟨v,rfl⟩ ⟨rfl,rfl⟩ hz
        obtain ⟨dx,hdx,hden⟩:=jS hws hx
        refine iY ?_
        refine ⟨_,rfl,_,rfl,n,x,dx,rfl,hden,hz,⟨some x,rfl⟩,rfl,?_⟩
        rw [Wp,hdx]
        simp
       ·rintro zs H2 ⟨rfl,rfl⟩ p hp
        refine ⟨p,_,rfl,SqL.of aB,?_⟩
        have e2:((ws.take ys.length).map (cZ n)).all id=ws.all (cZ n):=by
         rw [hlw,Jk,Wh]
         rfl
        rw [e2]
        exact k _ (aC.new hp)
end
def bN (l:List Int):PyData:=.tuple (l.map .int)
def dZ (n:Int) (ws:List (List Int)):PyData:=.tuple [.int n,.tuple (ws.map bN)]
def aDB (hs:List Int):PyData:=.tuple (hs.map .int)
def aBH:PyData->List Int->Bool
 | .int i,l=>l.any (·==i)
 | _,_=>false
def aFc (ws:List (List Int)):PyData->Bool
 | .tuple hs=>decide (hs.length=ws.length) && (hs.zip ws).all fun p=>aBH p.1 p.2
 | _=>false
theorem jV (l:List Int):(l.map V.int).all lY=true:=by
 rw [Wh]
 exact Qu.mpr fun _ _=>rfl
theorem aCW (i:Int) (l:List Int):inV (.int i) (l.map V.int)=l.any (·==i):=by
 unfold inV
 rw [Yt]
 rfl
theorem iZ {K:PySem.W.Frag} {H:Hp} {n:Int} {ws:List (List Int)} {x:V} (h:Den K H (dZ n ws) x):∃ a b ys,x=.ref a/\SqT K H a [.int n,.ref b]/\SqT K H b ys/\aO K H (ws.map bN) ys:=by
 obtain ⟨a,xs,rfl,ha,hds⟩:=bV.mp h
 obtain ⟨xh,r1,rfl,hh,h2⟩:=aJ.mp hds
 obtain ⟨xw,r2,rfl,hw,h3⟩:=aJ.mp h2
 obtain rfl:=aL.mp h3
 obtain rfl:=dM.mp hh
 obtain ⟨b,ys,rfl,hb,hys⟩:=bV.mp hw
 exact ⟨a,b,ys,rfl,ha,hb,hys⟩
theorem cO {n:Int} {ws:List (List Int)} (h:dE (dZ n ws)=true):1<=n/\n<=6/\ws.length<=12/\∀ l∈ws,cZ n (bN l)=true:=by
 have h':(decide (1<=n) && decide (n<=6) && decide ((ws.map bN).length<=12) && (ws.map bN).all (cZ n))=true:=h
 simp only [Jj,decide_eq_true_eq,Qa,Qu] at h'
 exact ⟨h'.1.1.1,h'.1.1.2,h'.1.2,fun l hl=>h'.2 _ (Qx.mpr ⟨l,hl,rfl⟩)⟩
theorem jJ {X:Cx} {pos:Pos} {es:List Expr} {k:Nat} {t:TGs} {n:Nat} {K:PySem.W.Frag} (hK:X.K=K) (hc:X.calm=true) (h:PGs X es t)
  (hn:(assignEach es X.env).length=n:=by rfl) (hst:(assignEach es X.env).findIdx? (·.1)=none:=by rfl):PG X (.Tuple es k pos) (aEA K n t):=by
 subst hK
 exact kD hc h hn hst
section
variable {X:Cx} {K:PySem.W.Frag}
theorem xR (hK:X.K=K):OpR X (compareOp .In) (rIn K false):=by subst hK; exact lI
theorem jK (hK:X.K=K):IxR X (aER K):=by subst hK; exact bL
theorem rY (hK:X.K=K):eY X (.builtin "len") (fun xs H Q=>∃ p ys,xs = [.ref p]/\(SqL K H p ys∨SqT K H p ys)/\Q (.int ys.length) H):=by subst hK; exact aU
theorem gR (hK:X.K=K):eY X (.type "tuple") (fun xs H Q=>∃ p ys,xs = [.ref p]/\((SqL K H p ys/\∀ l,H l=none->Q (.ref l) (upd H l (.tup ys)))∨(SqT K H p ys/\Q (.ref p) H))):=by subst hK; exact cR
end
section
variable {P:Program} {w:World} {K:PySem.W.Frag} {mg:Str->Option Value} {base:Heap}
structure Pr (K:PySem.W.Frag) (mg:Str->Option Value) (fW fH fK fB fNB:Addr) (dW dH dK dB dNB:FuncData):Prop where
 W:Fn K mg "is_whole" mG ["thing"] fW dW
 H:Fn K mg "are_hands" qE ["thing"] fH dH
 Kw:Fn K mg "is_work" qF ["hands", "thing"] fK dK
 B:Fn K mg "is_book" qG ["thing"] fB dB
 NB:Fn K mg "need_book" xQ ["book"] fNB dNB
variable {fW fH fK fB fNB:Addr} {dW dH dK dB dNB:FuncData}
def zJ (K:PySem.W.Frag):Sp:=fun vs H Q _=>∃ x d,vs = [x]/\Den K H d x/\dE d=true/\∀ H',aC H H'->Q .non H'
theorem aCX:FnScope ["book"] ["book"] (aF xQ):=⟨rfl,rfl,rfl,by decide +kernel,rfl,by decide +kernel,by decide +kernel⟩
theorem aBI (B:Bl mg) (R:Pr K mg fW fH fK fB fNB dW dH dK dB dNB):FnOk P w K mg base CX0 4 fNB dNB ["book"] (zJ K):=by
 have OB:FnOk P w K mg base CX0 3 fB dB ["thing"] (zI K):=aBG R.B B R.W R.H R.Kw
 refine R.NB.fn.ok aCX (fun vs H Q E h=>?_) (fun cdv A outer s H vs Q E hr h=>?_)
 ·obtain ⟨x,d,rfl,_⟩:=h
  rfl
 ·obtain ⟨x,d,rfl,hd,hb,k⟩:=h
  refine ⟨_,aI (cY (eZ (eD (bK R.B OB hr rfl (aA (pv 0) aD)))) sD bO),?_⟩
  refine ⟨_,rfl,x,d,rfl,hd,fun H' hs=>⟨_,rfl,?_⟩⟩
  rw [hb]
  refine eF ?_
  exact k H' hs
end
theorem kZ {n i:Nat} (h:i < n):(aQ n)[i]?=some (i:Int):=by
 unfold aQ
 rw [Qg,Zo h]
 rfl
theorem aZ (n:Nat):(aQ n).length=n:=by unfold aQ; rw [Qa,Zx]
theorem aEe {X:Cx} {K:PySem.W.Frag} {o e:Expr} {es:List Expr} {to:TE} {t:TA} {name:Str} {apos cpos:Pos} {T id:String} {r:V->List V->Hp->VK->Prop} (hK:X.K=K) (pa:PlainAttrs T) (slot:Slot T name id) (hty:typeOf (.builtin id)=pure (.type "method_descriptor")) (hm:MtR X id r) (ho:PE X o to) (ha:PA X (e::es) t)
  (hbase:attributeBase o name X.env (eval o X.env)=eval o X.env:=by rfl)
  (hfew:((backTo cpos (starEach (e::es) X.env)).all (fun x=>!x.1) && (backToKw cpos (keywordEach [] X.env)).all (fun x=>x.1.isSome)
   && decide ((e::es).length+([]:List Keyword).length+(if ([]:List Keyword).isEmpty then 0 else 1) < 30))=true:=by rfl)
  (hline:(apos.endLine==cpos.line)=true:=by rfl) (hs:starEach (e::es) X.env=(false,eval e X.env)::starEach es X.env:=by rfl) (hplain:(backTo cpos (starEach es X.env)).any (·.1)=false:=by rfl) :
  PE X (.Call (.Attribute o name apos) (e::es) [] cpos) (tBM K T r to t):=by
 subst hK
 exact pN pa slot hty hm ho ha hbase hfew hline hs hplain
section
variable {P:Program} {w:World} {K:PySem.W.Frag} {mg:Str->Option Value} {base:Heap}
variable {fW fH fK fB fNB:Addr} {dW dH dK dB dNB:FuncData}
def aBJ (K:PySem.W.Frag) (H:Hp) (x y:V) (n:Int) (ws:List (List Int)) (hs:List Int):Prop:=Den K H (dZ n ws) x/\dE (dZ n ws)=true/\Den K H (aDB hs) y/\aFc ws (aDB hs)=true
theorem aBJ.same {H H':Hp} {x y:V} {n:Int} {ws:List (List Int)} {hs:List Int} (g:aBJ K H x y n ws hs) (e:aC H H'):aBJ K H' x y n ws hs:=⟨e.den _ _ g.1,g.2.1,e.den _ _ g.2.2.1,g.2.2.2⟩
theorem aBJ.len {H:Hp} {x y:V} {n:Int} {ws:List (List Int)} {hs:List Int} (g:aBJ K H x y n ws hs):hs.length<=12/\1<=n/\n<=6:=by
 obtain ⟨h1,h2,h3,_⟩:=cO g.2.1
 have h:(decide ((hs.map PyData.int).length=ws.length) && ((hs.map PyData.int).zip ws).all fun p=>aBH p.1 p.2)=true:=g.2.2.2
 simp only [Jj,decide_eq_true_eq,Qa] at h
 omega
end
def But (t:Addr) (H H':Hp):Prop:=∀ b o,b≠t->H b=some o->H' b=some o
theorem But.refl (t:Addr) (H:Hp):But t H H:=fun _ _ _ h=>h
theorem But.trans {t:Addr} {H H1 H2:Hp} (a:But t H H1) (b:But t H1 H2):But t H H2:=fun c o n h=>b c o n (a c o n h)
theorem But.of {t:Addr} {H H':Hp} (a:aC H H'):But t H H':=fun c o _ h=>a c o h
theorem But.at {t:Addr} {H:Hp} {u:HO}:But t H (upd H t u):=fun c o n h=>by rw [aG n]; exact h
theorem But.free {t:Addr} {H H':Hp} (e:But t H H') {l:Addr} (h:H' l=none) (n:l≠t):H l=none:=by
 cases q:H l with
 | none=>rfl
 | some o=>rw [e l o n q] at h; cases h
theorem But.rdL {t a:Addr} {H H':Hp} {xs:List V} (e:But t H H') (n:a≠t) (h:Rd H a (.lst xs)):Rd H' a (.lst xs):=by
 rcases h with h | ⟨o,h⟩
 ·exact .inl (e a _ n h)
 ·exact .inr ⟨o,e a _ n h⟩
section
variable {K:PySem.W.Frag} {t:Addr} {H H':Hp} {ys:List V}
theorem But.seqT {a:Addr} {xs:List V} (e:But t H H') (ht:H t=some (.lst ys)) (h:SqT K H a xs):SqT K H' a xs:=by
 rcases h with (h | ⟨o,h⟩) | h
 ·exact .inl (.inl (e a _ (fun z=>by rw [z,ht] at h; cases h) h))
 ·exact .inl (.inr ⟨o,e a _ (fun z=>by rw [z,ht] at h; cases h) h⟩)
 ·exact .inr h
theorem But.seqL {a:Addr} {xs:List V} (e:But t H H') (n:a≠t) (h:SqL K H a xs):SqL K H' a xs:=by
 rcases h with h | h
 ·exact .inl (e.rdL n h)
 ·exact .inr h
mutual
def eJ:PyData->Bool
 | .dict _=>false
 | .list _=>false
 | .tuple ds=>dO ds
 | _=>true
def dO:List PyData->Bool
 | []=>true
 | d::ds=>eJ d && dO ds
end
mutual
theorem But.den (e:But t H H') (ht:H t=some (.lst ys)):∀ (d:PyData) (v:V),eJ d=true->Den K H d v->Den K H' d v
 | .none,v,_,h=>by unfold Den at h ⊢; exact h
 | .bool b,v,_,h=>by unfold Den at h ⊢; exact h
 | .int i,v,_,h=>by unfold Den at h ⊢; exact h
 | .str x,v,_,h=>by unfold Den at h ⊢; exact h
 | .list ds,v,n,h=>by unfold eJ at n; cases n
 | .tuple ds,v,n,h=>by unfold eJ at n; unfold Den at h ⊢; obtain ⟨a,xs,h1,h2,h3⟩:=h; exact ⟨a,xs,h1,e.seqT ht h2,But.denAll e ht ds xs n h3⟩
 | .dict kvs,v,n,h=>by unfold eJ at n; cases n
theorem But.denAll (e:But t H H') (ht:H t=some (.lst ys)):∀ (ds:List PyData) (xs:List V),dO ds=true->aO K H ds xs->aO K H' ds xs
 | [],xs,_,h=>by unfold aO at h ⊢; exact h
 | d::ds,xs,n,h=>by
  unfold dO at n; rw [Jj] at n
  unfold aO at h ⊢; obtain ⟨x,r,h1,h2,h3⟩:=h; exact ⟨x,r,h1,But.den e ht d x n.1 h2,But.denAll e ht ds r n.2 h3⟩
end
end
theorem cL {α:Type} (f:α->PyData) (h:∀ x,eJ (f x)=true):∀ l:List α,dO (l.map f)=true
 | []=>by unfold List.map dO; rfl
 | x::r=>by rw [Jc]; unfold dO; rw [h x,cL f h r]; rfl
theorem xS (i:Int):eJ (.int i)=true:=by unfold eJ; rfl
theorem fO (l:List Int):eJ (bN l)=true:=by unfold bN eJ; exact cL _ xS l
theorem sz1 (x:V) : [x].length<=sizeLine:=by rw [sizeLine_eq]; simp
theorem sz2 (x y:V) : [x,y].length<=sizeLine:=by rw [sizeLine_eq]; simp
theorem bP {n:Nat} (h:n<=1000):n<=sizeLine:=by rw [sizeLine_eq]; omega
def iC (K:PySem.W.Frag) (H:Hp) (t a:Addr) (ns:List Int):Prop:=∃ q:Int,H t=some (.lst [.int q])
theorem iC.same {K:PySem.W.Frag} {H H':Hp} {t a:Addr} {ns:List Int} (h:iC K H t a ns) (e:aC H H'):iC K H' t a ns:=by
 obtain ⟨q,h2⟩:=h
 exact ⟨q,e t _ h2⟩
theorem iC.den {K:PySem.W.Frag} {H H':Hp} {t a:Addr} {ns:List Int} (h:iC K H t a ns) (e:But t H H') {d:PyData} {v:V} (n:eJ d=true) (hd:Den K H d v):Den K H' d v:=by
 obtain ⟨q,h2⟩:=h
 exact e.den h2 d v n hd
theorem iC.denAll {K:PySem.W.Frag} {H H':Hp} {t a:Addr} {ns:List Int} (h:iC K H t a ns) (e:But t H H') {ds:List PyData} {vs:List V} (n:dO ds=true) (hd:aO K H ds vs):aO K H' ds vs:=by
 obtain ⟨q,h2⟩:=h
 exact e.denAll h2 ds vs n hd
theorem iC.seqT {K:PySem.W.Frag} {H H':Hp} {t a:Addr} {ns:List Int} (h:iC K H t a ns) (e:But t H H') {b:Addr} {xs:List V} (hd:SqT K H b xs):SqT K H' b xs:=by
 obtain ⟨q,h2⟩:=h
 exact e.seqT h2 hd
theorem iC.ne {K:PySem.W.Frag} {H:Hp} {t a:Addr} {ns:List Int} (h:iC K H t a ns) {b:Addr} (hb:H b=none):b≠t:=by
 obtain ⟨q,h2⟩:=h
 intro z
 rw [z,h2] at hb
 cases hb
theorem iC.wr {K:PySem.W.Frag} {H H':Hp} {t a f:Addr} {ns:List Int} (T:iC K H t a ns) (b:But f H H') (n:t≠f):iC K H' t a ns:=by
 obtain ⟨q,h2⟩:=T
 exact ⟨q,b t _ n h2⟩
section
variable {P:Program} {w:World} {K:PySem.W.Frag} {mg:Str->Option Value} {base:Heap}
theorem cC (ns:List Int):cT (.list (ns.map .int))=true:=by
 unfold cT
 induction ns with
 | nil=>unfold List.map gL; rfl
 | cons n r ih=>rw [Jc]; unfold gL; rw [ih]; unfold cT; rfl
theorem kJ {α:Type} (f:α->PyData) (h:∀ x,(f x).canLay0=true):∀ l:List α,PyData.canLayAll0 (l.map f)=true
 | []=>by unfold List.map PyData.canLayAll0; rfl
 | x::r=>by rw [Jc]; unfold PyData.canLayAll0; rw [h x,kJ f h r]; rfl
theorem lO {α:Type} {k:Nat} (f:α->PyData) (h:∀ x,(f x).depth<=k):∀ l:List α,PyData.depthAll (l.map f)<=k
 | []=>by unfold List.map PyData.depthAll; exact Jf _
 | x::r=>by rw [Jc]; unfold PyData.depthAll; exact Nat.max_le.mpr ⟨h x,lO f h r⟩
theorem qN (i:Int):(PyData.int i).canLay0=true:=by unfold PyData.canLay0; rfl
theorem sV (i:Int):(PyData.int i).depth<=0:=by unfold PyData.depth; exact Qh _
theorem uB (ns:List Int):(PyData.list (ns.map .int)).canLay0=true:=by unfold PyData.canLay0; exact kJ _ qN ns
theorem gS (ns:List Int):(PyData.tuple (ns.map .int)).canLay0=true:=by unfold PyData.canLay0; exact kJ _ qN ns
theorem wK (ns:List Int):(PyData.list (ns.map .int)).depth<=1:=by unfold PyData.depth; exact Zn (lO _ sV ns)
theorem iD (ns:List Int):(PyData.tuple (ns.map .int)).depth<=1:=by unfold PyData.depth; exact Zn (lO _ sV ns)
theorem nZ {d:PyData} (h1:d.canLay0=true) (h2:d.depth<=64):SeqAt.shaped d=true:=by
 unfold SeqAt.shaped
 rw [h1,decide_eq_true h2]
 rfl
theorem cF (ns:List Int):SeqAt.shaped (.list (ns.map .int))=true:=nZ (uB ns) (Qt (wK ns) (by decide))
theorem gT (ns:List Int):SeqAt.shaped (.tuple (ns.map .int))=true:=nZ (gS ns) (Qt (iD ns) (by decide))
theorem dQ (ns:List Int):cT (.tuple (ns.map .int))=true:=by
 have h:=cC ns
 unfold cT at h ⊢
 exact h
theorem _root_.L2.Room.u64 {k:Nat} {A:Around} (r:Room k A):A.units+64 < cLine:=by have:=r.un; omega
def aBK (K:PySem.W.Frag):Sp:=fun vs H Q _=>∃ (a:Addr) (ns:List Int) (k:Nat),vs = [.ref a,.int k]/\SqL K H a (ns.map V.int)/\∀ r,Q (.int r) H
theorem aEf:FnScope ["script", "k"] ["script", "k"] (aF zE):=⟨rfl,rfl,rfl,by decide +kernel,rfl,by decide +kernel,by decide +kernel⟩
theorem aCY {f:Addr} {fd:FuncData} (G:Fn K mg "_law_acell" zE ["script", "k"] f fd) (B:Bl mg):FnOk P w K mg base CX0 1 f fd ["script", "k"] (aBK K):=by
 refine G.fn.ok aEf (fun vs H Q E h=>?_) (fun cdv A outer s H vs Q E hr h=>?_)
 ·obtain ⟨a,ns,n,rfl,_⟩:=h
  rfl
 ·obtain ⟨a,ns,n,rfl,ha,k⟩:=h
  refine ⟨_,(aE (cY (aW aA2 (pv 1) (aP aU rfl B.len gG (aA (pv 0) aD)) (bJ _))
   (aI (aT (aY dG (pv 0) (pv 1) (fun _ _=>rfl))))
   bO)
  (aI (aT aH))),?_⟩
  refine ⟨_,rfl,_,rfl,a,_,rfl,.inl ha,_,_,rfl,rfl,_,rfl,?_⟩
  rw [Qa]
  refine iM (fun c=>?_) (fun c=>?_)
  ·have hlt:n < ns.length:=by have:=of_decide_eq_true c; omega
   exact ⟨_,rfl,_,rfl,a,_,n,.int ns[n],rfl,rfl,ha,gC (by rw [Qg,Qc hlt]; rfl),k _⟩
  ·exact k _
def aBL (K:PySem.W.Frag):Sp:=fun vs H Q _=>∃ (a:Addr) (ns:List Int) (k:Nat),vs = [.ref a,.int k]/\SqL K H a (ns.map V.int)/\∀ t q,H t=none->Q (.ref t) (upd H t (.lst [.int q]))
theorem lA:FnScope ["script", "k", "cell", "p", "number", "last", "turn"] ["script", "k"] (aF zF):=⟨rfl,rfl,rfl,by decide +kernel,rfl,by decide +kernel,by decide +kernel⟩
theorem aCZ {f fC:Addr} {fd dC:FuncData} (G:Fn K mg "_law_atape" zF ["script", "k"] f fd) (B:Bl mg) (GC:Fn K mg "_law_acell" zE ["script", "k"] fC dC):FnOk P w K mg base CX0 2 f fd ["script", "k"] (aBL K):=by
 have OC:FnOk P w K mg base CX0 1 fC dC ["script", "k"] (aBK K):=aCY GC B
 refine G.fn.ok lA (fun vs H Q E h=>?_) (fun cdv A outer s H vs Q E hr h=>?_)
 ·obtain ⟨a,ns,n,rfl,_⟩:=h
  rfl
 ·obtain ⟨a,ns,n,rfl,ha,k⟩:=h
  have r1:Room 1 _:=hr
  refine ⟨_,(aE (aS (i:=2) lA.nd rfl (Or.inl rfl) (bK GC OC r1 rfl (aA (pv 0) (aA (pv 1) aD))))
  (aE (cY (aW pK (bD kE (pv 2) aH) aH (bJ _))
   (aI (aT (fG (aA (bD yJ (pv 2) aH) aD))))
   bO)
  (aE (aS (i:=3) lA.nd rfl (Or.inl rfl) aH)
  (aE (aS (i:=4) lA.nd rfl (Or.inl rfl) aH)
  (aE (aS (i:=5) lA.nd rfl (Or.inl rfl) (bD kE (bD iH (bD iH (bD pJ (bD kE (pv 2) (pv 3)) aH) (bD pJ aH (pv 1))) aH) (pv 3)))
  (aE (fE PassesOwn.never rfl (gN rfl B.range (aA aH aD)) (aM (i:=6) lA.nd rfl (Or.inl rfl))
   (aE (aS (i:=4) lA.nd rfl (Or.inl rfl) (bD iH (bD pJ (pv 4) (pv 3)) (pv 5)))
  (aI (aS (i:=5) lA.nd rfl (Or.inl rfl) (bD kE (bD iH (bD iH (bD pJ (pv 5) (pv 5)) (bD pJ aH (pv 1))) (pv 6)) (pv 3))))))
  (aI (aT (fG (aA (pv 4) aD)))))))))),?_⟩
  refine ⟨_,rfl,_,rfl,a,ns,n,rfl,ha,fun c=>?_⟩
  refine ⟨_,rfl,_,_,rfl,rfl,(show (0:Int) < _ by decide),rfl,_,rfl,?_⟩
  refine iM (fun c1=>?_) (fun c1=>?_)
  ·exact ⟨_,rfl,_,_,rfl,rfl,⟨by decide,by decide⟩,sz1 _,fun t ht=>k t _ ht⟩
  ·refine ⟨_,rfl,_,rfl,_,_,rfl,rfl,(show (0:Int) < _ by decide),_,_,rfl,rfl,.inr ⟨by decide,by decide⟩,_,rfl,_,_,rfl,rfl,.inl ⟨by decide,by decide⟩,_,_,rfl,rfl,_,_,rfl,rfl,_,rfl,_,_,rfl,rfl,(show (0:Int) < _ by decide),?_⟩
   have b0:0<=((c % 2305843009213693951*48271+69621*(n:Int)+11) % 2305843009213693951:Int)/\((c % 2305843009213693951*48271+69621*(n:Int)+11) % 2305843009213693951:Int) < 2305843009213693951:=⟨Zg _ (by decide),Xs _ (by decide)⟩
   refine ⟨18,rfl,by decide,by decide,jQ (lo:=0) (n:=18) (fun i σ H2=>(∃ nu la v6,σ = [some (.ref a),some (.int n),some (.int c),some (.int 2305843009213693951),some (.int nu),some (.int la),v6]/\0<=la/\la < 2305843009213693951)/\H2=H) ⟨⟨0,_,none,rfl,b0.1,b0.2⟩,rfl⟩ ?_ ?_⟩
   ·rintro i σ H2 hi ⟨⟨nu,la,v6,rfl,h0,h1⟩,rfl⟩
    refine ⟨_,rfl,_,rfl,_,_,rfl,rfl,.inr ⟨by decide,by decide⟩,_,rfl,_,_,rfl,rfl,?_⟩
    refine ⟨_,rfl,_,rfl,_,_,rfl,rfl,.inl ⟨by omega,by omega⟩,_,rfl,_,_,rfl,rfl,.inl ⟨by decide,by decide⟩,_,_,rfl,rfl,_,rfl,_,_,rfl,rfl,_,rfl,_,_,rfl,rfl,(show (0:Int) < _ by decide),?_⟩
    exact ⟨⟨_,_,_,rfl,Zg _ (by decide),Xs _ (by decide)⟩,rfl⟩
   ·rintro σ H2 ⟨⟨nu,la,v6,rfl,h0,h1⟩,rfl⟩
    exact ⟨_,rfl,sz1 _,fun t ht=>k t _ ht⟩
def mX (K:PySem.W.Frag):Sp:=fun vs H Q _=>∃ (t a:Addr) (ns:List Int) (m:Int),vs = [.ref t,.int m]/\iC K H t a ns/\0 < m/\m < 1267650600228229401496703205376/\∀ r H',0<=r->r < m->But t H H'->iC K H' t a ns->Q (.int r) H'
theorem wL:FnScope ["tape", "many", "found"] ["tape", "many"] (aF lM):=⟨rfl,rfl,rfl,by decide +kernel,rfl,by decide +kernel,by decide +kernel⟩
theorem aBM {f:Addr} {fd:FuncData} (G:Fn K mg "_law_adigit" lM ["tape", "many"] f fd) (B:Bl mg):FnOk P w K mg base CX0 1 f fd ["tape", "many"] (mX K):=by
 refine G.fn.ok wL (fun vs H Q E h=>?_) (fun cdv A outer s H vs Q E hr h=>?_)
 ·obtain ⟨t,a,ns,m,rfl,_⟩:=h
  rfl
 ·obtain ⟨t,a,ns,m,rfl,⟨q,ht⟩,hm1,hm2,k⟩:=h
  refine ⟨_,(aE (aS (i:=2) wL.nd rfl (Or.inl rfl) (bD kE (aY dG (pv 0) aH (fun _ _=>rfl)) (pv 1)))
  (aE (tJ (bD aBg (aY dG (pv 0) aH (fun _ _=>rfl)) (pv 1)) (aDR (pv 0) aH vI))
  (aI (aT (pv 2))))),?_⟩
  refine ⟨_,rfl,t,_,0,.int q,rfl,rfl,SqL.of ht,rfl,_,rfl,_,_,rfl,rfl,hm1,?_⟩
  refine ⟨_,rfl,t,_,0,.int q,rfl,rfl,SqL.of ht,rfl,_,rfl,_,_,rfl,rfl,⟨hm1,hm2⟩,_,rfl,t,_,0,0,rfl,rfl,ht,rfl,?_⟩
  exact ⟨_,rfl,k _ _ (Zg _ (by omega)) (Xs _ hm1) But.at ⟨_,aB⟩⟩
theorem wM (n:Int):∀ (l:List Int) (last:Int),(∀ x∈l,last < x)->l.Pairwise (· < ·)->(∀ x∈l,x < n)->eW n last (l.map .int)=true
 | [],_,_,_,_=>rfl
 | x::r,last,h1,h2,h3=>by
  rw [Jc,iI]
  have h2':=Yu.mp h2
  rw [decide_eq_true (h1 x (Qk ..)),decide_eq_true (h3 x (Qk ..)),wM n r x h2'.1 h2'.2 (fun y hy=>h3 y (Qq _ hy))]
  rfl
theorem uC {n:Int} {l:List Int} (h0:l≠[]) (h1:∀ x∈l,0<=x/\x < n) (h2:l.Pairwise (· < ·)):cZ n (bN l)=true:=by
 have e:cZ n (bN l)=(!(l.map PyData.int).isEmpty && eW n (-1) (l.map .int)):=rfl
 rw [e,wM n l (-1) (fun x hx=>by have:=(h1 x hx).1; omega) h2 (fun x hx=>(h1 x hx).2)]
 cases l with
 | nil=>exact absurd rfl h0
 | cons _ _=>rfl
theorem oQ (n:Int):∀ (l:List Int) (last:Int),eW n last (l.map .int)=true->l.Pairwise (· < ·)/\∀ x∈l,last < x/\x < n
 | [],_,_=>⟨.nil,fun _ h=>by cases h⟩
 | x::r,last,h=>by
  rw [Jc,iI,Jj,Jj] at h
  obtain ⟨⟨h1,h2⟩,h3⟩:=h
  have h1:=of_decide_eq_true h1
  have h2:=of_decide_eq_true h2
  obtain ⟨i1,i2⟩:=oQ n r x h3
  refine ⟨Yu.mpr ⟨fun y hy=>(i2 y hy).1,i1⟩,fun y hy=>?_⟩
  rcases Ql.mp hy with rfl | hy
  ·exact ⟨h1,h2⟩
  ·exact ⟨by have:=(i2 y hy).1; omega,(i2 y hy).2⟩
theorem jA {n:Int} {l:List Int} (h:cZ n (bN l)=true):l≠[]/\(∀ x∈l,0<=x/\x < n)/\l.Pairwise (· < ·):=by
 have e:(!(l.map PyData.int).isEmpty && eW n (-1) (l.map .int))=true:=h
 rw [Jj] at e
 obtain ⟨h1,h2⟩:=oQ n l (-1) e.2
 refine ⟨fun z=>by rw [z] at e; simp at e,fun x hx=>⟨by have:=(h2 x hx).1; omega,(h2 x hx).2⟩,h1⟩
theorem qO {n:Int}:∀ (l:List Int) (lo:Int),lo<=n->(∀ x∈l,lo<=x/\x < n)->l.Pairwise (· < ·)->(l.length:Int)<=n - lo
 | [],lo,h,_,_=>by simp; omega
 | x::r,lo,h,h1,h2=>by
  have h2':=Yu.mp h2
  have hx:=h1 x (Qk ..)
  have:=qO r (x+1) (by omega) (fun y hy=>⟨by have:=h2'.1 y hy; omega,(h1 y (Qq _ hy)).2⟩) h2'.2
  rw [Jh]
  omega
theorem jB {n:Int} {l:List Int} (hn:0<=n) (h1:∀ x∈l,0<=x/\x < n) (h2:l.Pairwise (· < ·)):(l.length:Int)<=n:=by
 have:=qO l 0 hn h1 h2
 omega
theorem cH {n:Nat} {x:Int}:x∈aQ n↔0<=x/\x < n:=by
 unfold aQ
 rw [Qx]
 constructor
 ·rintro ⟨i,hi,rfl⟩
  have:=Jy.mp hi
  show 0<=(i:Int)/\(i:Int) < n
  omega
 ·rintro ⟨h1,h2⟩
  exact ⟨x.toNat,Jy.mpr (by omega),by show ((x.toNat:Nat):Int)=x; omega⟩
theorem qP (n:Nat):(aQ n).Pairwise (· < ·):=by
 unfold aQ
 rw [Zy]
 refine List.pairwise_lt_range.imp fun h=>?_
 show ((_:Nat):Int) < ((_:Nat):Int)
 omega
theorem lB:∀ (a b:List Int),PyData.eqvAll (a.map .int) (b.map .int)=decide (a=b)
 | [],[]=>by simp [PyData.eqvAll]
 | [],_::_=>by simp [PyData.eqvAll]
 | _::_,[]=>by simp [PyData.eqvAll]
 | x::r,y::s=>by
  rw [Jc,Jc,PyData.eqvAll,lB r s,PyData.eqv]
  by_cases h:x=y
  ·by_cases h2:r=s
   ·simp [h,h2]
   ·simp [h,h2]
  ·simp [h]
theorem oA (a b:List Int):PyData.eqv (.list (a.map .int)) (.list (b.map .int))=decide (a=b):=by rw [PyData.eqv,lB]
theorem lP (a b:List Int):PyData.eqv (.tuple (a.map .int)) (.tuple (b.map .int))=decide (a=b):=by rw [PyData.eqv,lB]
theorem uD {n:Int} {ws:List (List Int)} (h1:1<=n) (h2:n<=6) (h3:ws.length<=12) (h4:∀ l∈ws,cZ n (bN l)=true):dE (dZ n ws)=true:=by
 show (decide (1<=n) && decide (n<=6) && decide ((ws.map bN).length<=12) && (ws.map bN).all (cZ n))=true
 rw [decide_eq_true h1,decide_eq_true h2,Qa,decide_eq_true h3,Xr,Xr,Xr,Qu]
 intro d hd
 obtain ⟨l,hl,rfl⟩:=Qx.mp hd
 exact h4 l hl
theorem lQ {H:Hp} {n:Int} {ws:List (List Int)} {a b:Addr} {ys:List V} (h1:SqT K H a [.int n,.ref b]) (h2:SqT K H b ys) (h3:aO K H (ws.map bN) ys):Den K H (dZ n ws) (.ref a) :=
 bV.mpr ⟨a,_,rfl,h1,aJ.mpr ⟨_,_,rfl,dM.mpr rfl,aJ.mpr ⟨_,_,rfl,bV.mpr ⟨b,ys,rfl,h2,h3⟩,aL.mpr rfl⟩⟩⟩
def zK (K:PySem.W.Frag):Sp:=fun vs H Q _=>∃ (t a:Addr) (ns:List Int) (hm wm:Int),vs = [.ref t,.int hm,.int wm]/\iC K H t a ns/\1<=hm/\hm<=6/\0<=wm/\wm<=12/\∀ n ws p H',dE (dZ n ws)=true->n<=hm->(ws.length:Int)<=wm->But t H H'->iC K H' t a ns->Den K H' (dZ n ws) (.ref p)->Q (.ref p) H'
theorem kK:FnScope ["tape", "hands", "works", "n", "often", "found", "k", "able"] ["tape", "hands", "works"] (aF qJ):=⟨rfl,rfl,rfl,by decide +kernel,rfl,by decide +kernel,by decide +kernel⟩
theorem aBN {f fD:Addr} {fd fdD:FuncData} (G:Fn K mg "_law_abook" qJ ["tape", "hands", "works"] f fd) (B:Bl mg) (GD:Fn K mg "_law_adigit" lM ["tape", "many"] fD fdD) (OD:FnOk P w K mg base CX0 1 fD fdD ["tape", "many"] (mX K)):FnOk P w K mg base CX0 2 f fd ["tape", "hands", "works"] (zK K):=by
 refine G.fn.ok kK (fun vs H Q E h=>?_) (fun cdv A outer s H vs Q E hr h=>?_)
 ·obtain ⟨t,a,ns,hm,wm,rfl,_⟩:=h
  rfl
 ·obtain ⟨t,a,ns,hm,wm,rfl,hT,hh1,hh6,hw0,hw12,k⟩:=h
  have r1:Room 1 _:=hr
  refine ⟨_,(aE (aS (i:=3) kK.nd rfl (Or.inl rfl) (bD iH aH (bK GD OD r1 rfl (aA (pv 0) (aA (pv 1) aD)))))
  (aE (aS (i:=4) kK.nd rfl (Or.inr rfl) (bD iH aH (bK GD OD r1 rfl (aA (pv 0) (aA aH aD)))))
  (aE (aS (i:=5) kK.nd rfl (Or.inl rfl) (fG aD))
  (aE (fE PassesOwn.never rfl (gN rfl B.range (aA (bK GD OD r1 rfl (aA (pv 0) (aA (bD iH (pv 2) aH) aD))) aD)) (aM (i:=6) kK.nd rfl (Or.inl rfl))
   (aE (fM (i:=7) (own:=["hand"]) (fr:=[4,0]) (frn:=["often", "tape"]) (aR (aF qJ) ["tape", "hands", "works", "n", "often", "found", "k", "able"] rfl rfl (by decide +kernel)) rfl kK.nd rfl rfl rfl (gN rfl B.range (aA (pv 3) aD))
    (fun _ _ _ _=>(aM (i:=0) (show (["hand", "often", "tape"]:List Str).Nodup by decide +kernel) rfl (Or.inl rfl))) (fun _ _ _ _=>jN (aW aA2 (bK GD OD r1 rfl (aA (pv 2) (aA aH aD))) (pv 1) (bJ _)))
    (fun _ _ _ _=>(pv 0)))
  (aE (cY (aW (tO hr.u64) (pv 7) (fG aD) (bJ _))
   (aI (aS (i:=7) kK.nd rfl (Or.inl rfl) (fG (aA (bK GD OD r1 rfl (aA (pv 0) (aA (pv 3) aD))) aD))))
   bO)
  (aI (kC (pN PySem.F.plainAttrs_list PySem.F.slot_list_append PySem.F.type_list_append lJ (pv 5) (aA (bZ cR rfl B.tuple cX (aA (pv 7) aD)) aD)))))))
  (aI (aT (eE (aA (pv 3) (aA (bZ cR rfl B.tuple cX (aA (pv 5) aD)) aD))))))))),?_⟩
  refine ⟨_,rfl,_,rfl,t,a,ns,hm,rfl,hT,by omega,by omega,fun r H1 hr0 hr1 b1 T1=>⟨_,_,rfl,rfl,?_⟩⟩
  refine ⟨_,rfl,t,a,ns,4,rfl,T1,by decide,by decide,fun kd H2 hk0 hk1 b2 T2=>⟨_,_,rfl,rfl,?_⟩⟩
  refine ⟨bP (Jf _),fun fl hfl=>?_⟩
  have ntf:t≠fl:=fun z=>T2.ne hfl z.symm
  have s3:=aC.new (o:=.lst []) hfl
  have hfl0:H fl=none:=(b1.trans b2).free hfl (Ne.symm ntf)
  have T3:=T2.same s3
  have b03:=b1.trans (b2.trans (But.of s3))
  have hfl3:upd H2 fl (.lst []) fl=some (.lst []):=aB
  generalize hH3:upd H2 fl (.lst [])=H3 at T3 b03 hfl3 ⊢
  refine ⟨_,rfl,_,rfl,_,_,rfl,rfl,t,a,ns,wm+1,rfl,T3,by omega,by omega,fun m H4 hm0 hm1 b4 T4=>?_⟩
  refine ⟨m,rfl,by omega,by omega,jQ (lo:=0) (n:=m.toNat) (fun i σ H5=>∃ (ws:List (List Int)) (xs:List V) (v v2:Option V),σ = [some (.ref t),some (.int hm),some (.int wm),some (.int (1+r)),some (.int (1+kd)),some (.ref fl),v,v2]/\ws.length=i /\
   (∀ l∈ws,cZ (1+r) (bN l)=true)/\H5 fl=some (.lst xs)/\aO K H5 (ws.map bN) xs/\But t H H5/\iC K H5 t a ns)
   ⟨[],[],none,none,rfl,rfl,fun _ h=>(Ja h).elim,b4 fl _ (Ne.symm ntf) hfl3,aL.mpr rfl,b03.trans b4,T4⟩ ?_ ?_⟩
  ·rintro i σ H5 hi ⟨ws,xs,v,v2,rfl,hl,hw,hx,hd,b5,T5⟩
   have hxl:xs.length=i:=by rw [aK hd,Qa,hl]
   have next:∀ (l:List Int) (p:Addr) (H7:Hp),cZ (1+r) (bN l)=true->But t H5 H7->iC K H7 t a ns->SqT K H7 p (l.map V.int) ->
     ∃ xs',H7 fl=some (.lst xs)/\xs'=xs++[.ref p]/\(∀ l2∈ws++[l],cZ (1+r) (bN l2)=true)/\aO K (upd H7 fl (.lst xs')) ((ws++[l]).map bN) xs'/\But t H (upd H7 fl (.lst xs'))/\iC K (upd H7 fl (.lst xs')) t a ns:=by
    intro l p H7 hwk b7 T7 hp7
    have hx7:H7 fl=some (.lst xs):=b7 fl _ (Ne.symm ntf) hx
    have hd7:=T5.denAll b7 (cL _ fO ws) hd
    have b8:But fl H7 (upd H7 fl (.lst (xs++[.ref p]))):=But.at
    refine ⟨_,hx7,rfl,fun l2 hl2=>?_,?_,fun b o nb hb=>?_,T7.wr b8 ntf⟩
    ·rcases Jm.mp hl2 with h | h
     ·exact hw l2 h
     ·rw [Qs.mp h]; exact hwk
    ·rw [Qp]
     exact bC (b8.denAll hx7 _ _ (cL _ fO ws) hd7) (aJ.mpr ⟨_,_,rfl,bB.mpr ⟨p,rfl,b8.seqT hx7 hp7⟩,aL.mpr rfl⟩)
    ·rw [aG (fun z=>by rw [z,hfl0] at hb; cases hb)]
     exact (b5.trans b7) b o nb hb
   refine ⟨_,rfl,1+r,rfl,by omega,by omega,iV (lo:=0) (n:=(1+r).toNat) (fun σ=>∃ v,σ = [v,some (.int (1+kd)),some (.ref t)]) (fun j ys H6=>∃ l:List Int,ys=l.map V.int/\l.Pairwise (· < ·)/\(∀ x∈l,0<=x/\x < j)/\But t H5 H6/\iC K H6 t a ns) (bP (by omega)) ⟨none,rfl⟩
    ⟨[],rfl,.nil,fun _ h=>(Ja h).elim,But.refl t H5,T5⟩ ?_ ?_ ?_⟩
   ·rintro j ys H6 ⟨l,rfl,h1,h2,_⟩
    rw [Qa]
    have:=jB (n:=(j:Int)) (by omega) h2 h1
    omega
   ·rintro j ys σ H6 hj ⟨v,rfl⟩ ⟨l,rfl,h1,h2,b6,T6⟩ hz
    refine ⟨_,rfl,t,a,ns,5,rfl,T6,by decide,by decide,fun r7 H7 _ _ b7 T7=>⟨_,rfl,_,_,rfl,rfl,_,rfl,?_⟩⟩
    refine iM (fun c=>?_) (fun c=>?_)
    ·refine ⟨_,rfl,hz,⟨_,rfl⟩,l++[(j:Int)],by simp,List.pairwise_append.mpr ⟨h1,by simp,fun x hx y hy=>?_⟩,fun x hx=>?_,b6.trans b7,T7⟩
     ·rw [Qs.mp hy]; exact (h2 x hx).2
     ·rcases Jm.mp hx with hx | hx
      ·have:=h2 x hx; omega
      ·rw [Qs.mp hx]; omega
    ·refine ⟨⟨_,rfl⟩,l,rfl,h1,fun x hx=>?_,b6.trans b7,T7⟩
     have:=h2 x hx; omega
   ·rintro ys H6 ⟨l,rfl,h1,h2,b6,T6⟩ ap hap
    have hapt:ap≠t:=T6.ne hap
    have s7:=aC.new (o:=.lst (l.map V.int)) hap
    have e7:upd H6 ap (.lst (l.map V.int)) ap=some (.lst (l.map V.int)):=aB
    have b7:=b6.trans (But.of (t:=t) s7)
    have T7:=T6.same s7
    generalize upd H6 ap (.lst (l.map V.int))=H7 at s7 e7 b7 T7 ⊢
    refine ⟨_,rfl,bP (Jf _),fun z hz=>?_⟩
    have s8:=aC.new (o:=.lst []) hz
    refine ⟨.list (l.map .int),.list (([]:List Int).map .int),sP.mpr ⟨ap,rfl,s8.seqL (SqL.of e7)⟩,sP.mpr ⟨z,rfl,SqL.of aB⟩,cC _,cC _,cF _,cF _,_,rfl,?_⟩
    rw [oA]
    have e8:=s8 _ _ e7
    have b8:=b7.trans (But.of (t:=t) s8)
    have T8:=T7.same s8
    generalize upd H7 z (.lst [])=H8 at e8 b8 T8 ⊢
    by_cases hln:l = []
    ·rw [decide_eq_true hln]
     refine iT ?_
     refine ⟨_,rfl,_,rfl,t,a,ns,1+r,rfl,T8,by omega,by omega,fun r9 H9 h90 h91 b9 T9=>⟨sz1 _,fun l9 hl9=>?_⟩⟩
     have s10:=aC.new (o:=.lst [.int r9]) hl9
     have b10:=b8.trans (b9.trans (But.of s10))
     have T10:=T9.same s10
     have e10:upd H9 l9 (.lst [.int r9]) l9=some (.lst [.int r9]):=aB
     generalize upd H9 l9 (.lst [.int r9])=H10 at b10 T10 e10 ⊢
     have hx10:=b10 fl _ (Ne.symm ntf) hx
     refine ⟨_,rfl,.inl ⟨rfl,_,SqL.of hx10⟩,_,rfl,l9,_,rfl,.inl ⟨SqL.of e10,fun q hq=>?_⟩⟩
     have s11:=aC.new (o:=.tup [.int r9]) hq
     obtain ⟨xs',n1,n2,n3,n4,n5,n6⟩:=next [r9] q _ (uC (by simp) (fun y hy=>by rw [Qs.mp hy]; omega) (by simp)) (b10.trans (But.of s11)) (T10.same s11) (SqT.of aB)
     subst n2
     exact ⟨fl,xs,.ref q,rfl,rfl,n1,by rw [sizeLine_eq]; omega,ws++[[r9]],_,_,_,rfl,by rw [Qv,hl]; rfl,n3,aB,n4,n5,n6⟩
    ·rw [decide_eq_false hln]
     refine eF ?_
     have hx8:=b8 fl _ (Ne.symm ntf) hx
     refine ⟨_,rfl,.inl ⟨rfl,_,SqL.of hx8⟩,_,rfl,ap,_,rfl,.inl ⟨SqL.of e8,fun q hq=>?_⟩⟩
     have s11:=aC.new (o:=.tup (l.map V.int)) hq
     obtain ⟨xs',n1,n2,n3,n4,n5,n6⟩:=next l q _ (uC hln (fun y hy=>by have:=h2 y hy; omega) h1) (b8.trans (But.of s11)) (T8.same s11) (SqT.of aB)
     subst n2
     exact ⟨fl,xs,.ref q,rfl,rfl,n1,by rw [sizeLine_eq]; omega,ws++[l],_,_,_,rfl,by rw [Qv,hl]; rfl,n3,aB,n4,n5,n6⟩
  ·rintro σ H5 ⟨ws,xs,v,v2,rfl,hl,hw,hx,hd,b5,T5⟩
   refine ⟨_,rfl,_,rfl,fl,_,rfl,.inl ⟨SqL.of hx,fun q hq=>⟨sz2 _ _,fun p hp=>?_⟩⟩⟩
   have sm:=(aC.new (o:=.tup xs) hq).trans (aC.new (o:=.tup [.int (1+r),.ref q]) hp)
   refine k (1+r) ws p _ (uD (by omega) (by omega) (by omega) hw) (by omega) (by omega) (b5.trans (But.of sm)) (T5.same sm) ?_
   refine lQ (SqT.of aB) ((aC.new hp).seqT (SqT.of aB)) (sm.denAll _ _ hd)
end
def kL (s l:List Int):Bool:=l.all fun h=>decide (h∈s)
def cP (hs:List Int):List (List Int):=hs.foldl (fun acc h=>acc++acc.map (·++[h])) [[]]
def gZ (hs:List Int):List (List Int):=(cP hs).tail
theorem hV (hs:List Int) (x:Int):cP (hs++[x])=cP hs++(cP hs).map (·++[x]):=by
 unfold cP
 rw [List.foldl_append]
 rfl
theorem jC {p:List Int->Prop} (h0:p []) (h1:∀ l x,p l->p (l++[x])):∀ l,p l:=by
 intro l
 have:∀ r:List Int,p r.reverse:=by
  intro r
  induction r with
  | nil=>exact h0
  | cons x r ih=>rw [Zi]; exact h1 _ _ ih
 have h:=this l.reverse
 rwa [List.reverse_reverse] at h
theorem eV:∀ hs:List Int,cP hs = []::gZ hs:=by
 refine jC rfl fun l x ih=>?_
 unfold gZ
 rw [hV,ih]
 rfl
theorem hJ (hs:List Int) (x:Int):gZ (hs++[x])=gZ hs++[x]::(gZ hs).map (·++[x]):=by
 have h:=hV hs x
 rw [eV (hs++[x]),eV hs] at h
 rw [Jc,List.cons_append] at h
 injection h
theorem aAu:∀ hs:List Int,∀ h∈hs,[h]∈gZ hs:=by
 refine jC (fun h hh=>by cases hh) fun l x ih h hh=>?_
 rw [hJ]
 rcases Jm.mp hh with hh | hh
 ·exact Jq _ (ih h hh)
 ·rw [Qs.mp hh]
  exact Qo _ (Qk ..)
theorem aAv:∀ hs:List Int,(gZ hs).length+1=2^hs.length:=by
 refine jC rfl fun l x ih=>?_
 rw [hJ,Qv,Jh,Qa,Qv,Jz,Nat.pow_succ,<- ih]
 omega
theorem oR:∀ hs:List Int,∀ s∈gZ hs,s.length<=hs.length:=by
 refine jC (fun s hs=>by cases hs) fun l x ih s hs=>?_
 rw [hJ] at hs
 rw [Qv,Jz]
 rcases Jm.mp hs with hs | hs
 ·have:=ih s hs; omega
 ·rcases Ql.mp hs with rfl | hs
  ·simp
  ·obtain ⟨s',h1,rfl⟩:=Qx.mp hs
   have:=ih s' h1
   rw [Qv,Jz]
   omega
def fQ (a b:Int):Int:=a / (Int.gcd a b:Int)
def gD (a b:Int):Int:=b / (Int.gcd a b:Int)
theorem kM {a b:Int} (hb:0 < b):0 < (Int.gcd a b:Int):=by
 have:=Int.gcd_pos_of_ne_zero_right a (show b≠0 by omega)
 omega
theorem iN:∀ (a b:List Int),aN (a++b)=aN a+aN b
 | [],b=>by show aN b=0+aN b; omega
 | x::a,b=>by
  show x+aN (a++b)=x+aN a+aN b
  rw [iN a b]; omega
theorem jW {α:Type} {f g:α->Int}:∀ {l:List α},(∀ x∈l,f x<=g x)->aN (l.map f)<=aN (l.map g)
 | [],_=>Xf _
 | x::l,h=>by
  show f x+aN (l.map f)<=g x+aN (l.map g)
  have h1:=h x (Qk ..)
  have h2:=jW (l:=l) fun y hy=>h y (Qq _ hy)
  omega
theorem bE {α:Type} {f g:α->Int} {l:List α} (h:∀ x∈l,f x=g x):aN (l.map f)=aN (l.map g):=by
 rw [Zp h]
theorem gE {α:Type} (f g:α->Int):∀ (l:List α),aN (l.map fun x=>f x+g x)=aN (l.map f)+aN (l.map g)
 | []=>rfl
 | x::l=>by
  show f x+g x+aN (l.map fun x=>f x+g x)=f x+aN (l.map f)+(g x+aN (l.map g))
  rw [gE f g l]; omega
theorem jD {α:Type} (c:Int) (f:α->Int):∀ (l:List α),aN (l.map fun x=>c*f x)=c*aN (l.map f)
 | []=>by show (0:Int)=c*0; omega
 | x::l=>by
  show c*f x+aN (l.map fun x=>c*f x)=c*(f x+aN (l.map f))
  rw [jD c f l,Yn]
theorem fU {α:Type} {f:α->Int}:∀ {l:List α},(∀ x∈l,f x=0)->aN (l.map f)=0
 | [],_=>rfl
 | x::l,h=>by
  show f x+aN (l.map f)=0
  rw [h x (Qk ..),fU fun y hy=>h y (Qq _ hy)]; rfl
theorem mY {α:Type} {f:α->Int}:∀ {l:List α},(∀ x∈l,0<=f x)->0<=aN (l.map f)
 | [],_=>Xf _
 | x::l,h=>by
  show 0<=f x+aN (l.map f)
  have h1:=h x (Qk ..)
  have h2:=mY (l:=l) fun y hy=>h y (Qq _ hy)
  omega
theorem lR {α:Type} {f:α->Int} {y:α}:∀ {l:List α},(∀ x∈l,0<=f x)->y∈l->f y<=aN (l.map f)
 | [],_,h=>by cases h
 | x::l,h,hy=>by
  show f y<=f x+aN (l.map f)
  have h1:=h x (Qk ..)
  have h2:=mY (l:=l) fun y hy=>h y (Qq _ hy)
  rcases Ql.mp hy with rfl | hy
  ·omega
  ·have:=lR (l:=l) (fun y hy=>h y (Qq _ hy)) hy
   omega
theorem qQ {α β:Type} (f:α->β->Int):∀ (l:List α) (m:List β),aN (l.map fun x=>aN (m.map fun y=>f x y))=aN (m.map fun y=>aN (l.map fun x=>f x y))
 | [],m=>(fU fun _ _=>rfl).symm
 | x::l,m=>by
  show aN (m.map fun y=>f x y)+aN (l.map fun x=>aN (m.map fun y=>f x y))=aN (m.map fun y=>f x y+aN (l.map fun x=>f x y))
  rw [qQ f l m,gE]
theorem mZ {α:Type} (f:α->Int) (p:α->Bool):∀ l:List α,aN (l.map f)=aN ((l.filter p).map f)+aN ((l.filter fun x=>!p x).map f)
 | []=>rfl
 | x::l=>by
  rw [Qw,Qw]
  show f x+aN (l.map f)=_
  rw [mZ f p l]
  cases p x
  ·show _=aN ((l.filter p).map f)+(f x+aN ((l.filter fun x=>!p x).map f)); omega
  ·show _=f x+aN ((l.filter p).map f)+aN ((l.filter fun x=>!p x).map f); omega
theorem uE {α:Type} (f:α->Int) (p:α->Bool):∀ l:List α,aN (l.map fun x=>if p x=true then f x else 0)=aN ((l.filter p).map f)
 | []=>rfl
 | x::l=>by
  rw [Qw]
  show (if p x=true then f x else 0)+aN (l.map fun x=>if p x=true then f x else 0)=_
  rw [uE f p l]
  cases p x
  ·show 0+_=_; simp
  ·show _=f x+aN ((l.filter p).map f); simp
theorem lS {α:Type} {f:α->Int} {c:Int}:∀ {l:List α},(∀ x∈l,f x=c)->aN (l.map f)=(l.length:Int)*c
 | [],_=>by show (0:Int)=0*c; omega
 | x::l,h=>by
  show f x+aN (l.map f)=((l.length+1:Nat):Int)*c
  rw [h x (Qk ..),lS fun y hy=>h y (Qq _ hy),Int.natCast_add,Wr]
  show c+_=_+1*c
  omega
theorem lC {α:Type} [DecidableEq α] (c:Int) (y:α):∀ {l:List α},l.Nodup->y∈l->aN (l.map fun x=>if x=y then c else 0)=c
 | [],_,h=>by cases h
 | x::l,nd,h=>by
  show (if x=y then c else 0)+aN (l.map fun x=>if x=y then c else 0)=c
  have nd':=Xi.mp nd
  rcases Ql.mp h with e | h
  ·rw [if_pos e.symm,fU fun z hz=>if_neg (fun q=>nd'.1 (by rw [<- e,<- q]; exact hz))]; omega
  ·rw [if_neg (fun q=>nd'.1 (by rw [q]; exact h)),lC c y nd'.2 h]; omega
def inS (s:List Int) (h:Int):Bool:=decide (h∈s)
theorem bH {s:List Int} {h:Int}:inS s h=true↔h∈s:=decide_eq_true_iff
abbrev bA:=List (List Int×Int)
def wIn (rows:bA) (p:Int->Bool):Int:=aN (rows.map fun r=>if r.1.all p=true then r.2 else 0)
def eK (left:List Int) (p:Int->Bool):Int:=((left.filter p).length:Int)
def cU (left:List Int) (rows:bA):Prop:=∀ r∈rows,r.1≠[]/\(∀ h∈r.1,h∈left)/\0<=r.2
def qR (left:List Int) (rows:bA) (s:List Int) (m:Int):Prop :=
 s≠[]/\s=left.filter (inS s)/\m=wIn rows (inS s)/\∀ p,wIn rows p*s.length<=m*eK left p/\(wIn rows p*s.length=m*eK left p->eK left p<=s.length)
def redu (rows:bA) (s:List Int):bA:=(rows.filter fun r=>!(r.1.all (inS s))).map fun r=>(r.1.filter fun h=>!inS s h,r.2)
def bX:List Int->bA->bA->Prop
 | left,_,[]=>left = []
 | left,rows,b::bs=>qR left rows b.1 b.2/\bX (left.filter fun h=>!inS b.1 h) (redu rows b.1) bs
theorem cU.redu {left:List Int} {rows:bA} {s:List Int} (h:cU left rows):cU (left.filter fun h=>!inS s h) (redu rows s):=fun r hr=>by
 obtain ⟨r0,h0,rfl⟩:=Qx.mp hr
 obtain ⟨h1,h2⟩:=Qr.mp h0
 obtain ⟨a,b,c⟩:=h r0 h1
 refine ⟨fun z=>?_,fun x hx=>?_,c⟩
 ·have:r0.1.all (inS s)=true:=Qu.mpr fun x hx=>by
   cases q:inS s x with
   | true=>rfl
   | false=>exact absurd (show x∈r0.1.filter fun h=>!inS s h from Qr.mpr ⟨hx,by rw [q]; rfl⟩) (by rw [show (r0.1.filter fun h=>!inS s h) = [] from z]; exact Ja)
  rw [this] at h2; cases h2
 ·obtain ⟨x1,x2⟩:=Qr.mp hx
  exact Qr.mpr ⟨b x x1,x2⟩
theorem qT (r:List Int×Int) (rows:bA) (p:Int->Bool):wIn (r::rows) p=(if r.1.all p=true then r.2 else 0)+wIn rows p:=rfl
theorem aC0 {r:List Int×Int} {rows:bA} {s:List Int} (h:r.1.all (inS s)=true):redu (r::rows) s=redu rows s:=by
 unfold redu; rw [Qw,h]; rfl
theorem aBO {r:List Int×Int} {rows:bA} {s:List Int} (h:r.1.all (inS s)=false):redu (r::rows) s=(r.1.filter fun h=>!inS s h,r.2)::redu rows s:=by
 unfold redu; rw [Qw,h]; rfl
theorem sW (s:List Int) (p:Int->Bool):∀ rows:bA,wIn rows (fun h=>inS s h || p h)=wIn rows (inS s)+wIn (redu rows s) p
 | []=>rfl
 | r::rows=>by
  rw [qT,qT,sW s p rows]
  cases q:r.1.all (inS s) with
  | true =>
   rw [aC0 q,if_pos rfl,if_pos (Qu.mpr fun x hx=>by rw [Qu.mp q x hx]; rfl)]
   omega
  | false =>
   rw [aBO q,qT,if_neg (show ¬ (false=true) by decide)]
   have:r.1.all (fun h=>inS s h || p h)=(r.1.filter fun h=>!inS s h).all p:=by
    rw [List.all_filter]
    congr 1
    funext x
    cases inS s x <;> rfl
   rw [this]
   show _+_=_+((if (r.1.filter fun h=>!inS s h).all p=true then r.2 else 0)+_)
   omega
theorem oB {left s:List Int} (h:s=left.filter (inS s)) (p:Int->Bool):eK left (fun h=>inS s h || p h)=s.length+eK (left.filter fun h=>!inS s h) p:=by
 have:∀ l:List Int,((l.filter fun h=>inS s h || p h).length:Int)=((l.filter (inS s)).length:Int)+(((l.filter fun h=>!inS s h).filter p).length:Int):=fun l=>by
  induction l with
  | nil=>rfl
  | cons x l ih =>
   rw [Qw,Qw,Qw]
   cases q:inS s x
   ·cases q2:p x
    ·simp only [Yj,Bool.not_false,if_true,Qw,q2,if_false,Xc]; exact ih
    ·simp only [Yj,Bool.not_false,if_true,Qw,q2,if_false,Xc,Jh]; omega
   ·simp only [Wg,Bool.not_true,if_true,if_false,Xc,Jh]; omega
 unfold eK
 rw [this left,<- h]
theorem aBP {left:List Int} {rows:bA} {s s2:List Int} {m m2:Int} (h1:qR left rows s m) (h2:qR (left.filter fun h=>!inS s h) (redu rows s) s2 m2):m2*s.length < m*s2.length:=by
 obtain ⟨_,a2,a3,a4⟩:=h1
 obtain ⟨b1,b2,b3,_⟩:=h2
 obtain ⟨c1,c2⟩:=a4 fun h=>inS s h || inS s2 h
 have e2:eK (left.filter fun h=>!inS s h) (inS s2)=s2.length:=by unfold eK; rw [<- b2]
 rw [sW,oB a2,<- a3,<- b3,e2] at c1 c2
 have hp:0 < s2.length:=Jp.mpr b1
 rw [Wr,Yn] at c1 c2
 have:¬ (m2*s.length=m*s2.length):=fun z=>by
  have:=c2 (by rw [z])
  omega
 omega
theorem qU:∀ {bs:bA} {left:List Int} {rows:bA} {s:List Int} {m:Int},qR left rows s m->bX (left.filter fun h=>!inS s h) (redu rows s) bs->∀ b∈bs,b.1≠[]/\b.2*s.length < m*b.1.length
 | [],_,_,_,_,_,_,b,hb=>by cases hb
 | c::bs,left,rows,s,m,h1,h2,b,hb=>by
  have hl:=aBP h1 h2.1
  rcases Ql.mp hb with rfl | hb
  ·exact ⟨h2.1.1,hl⟩
  ·obtain ⟨ih0,ih⟩:=qU h2.1 h2.2 b hb
   have p1:(0:Int) < c.1.length:=by have:=Jp.mpr h2.1.1; omega
   have p2:(0:Int) < b.1.length:=by have:=Jp.mpr ih0; omega
   have p3:(0:Int) < s.length:=by have:=Jp.mpr h1.1; omega
   refine ⟨ih0,Int.lt_of_mul_lt_mul_right (a:=(c.1.length:Int)) ?_ (Zh p1)⟩
   have t1:b.2*c.1.length*s.length < c.2*b.1.length*s.length:=Yo ih p3
   have t2:c.2*s.length*b.1.length < m*c.1.length*b.1.length:=Yo hl p2
   have e1:b.2*(s.length:Int)*c.1.length=b.2*c.1.length*s.length:=Xt ..
   have e2:c.2*(b.1.length:Int)*s.length=c.2*s.length*b.1.length:=Xt ..
   have e3:m*(b.1.length:Int)*c.1.length=m*c.1.length*b.1.length:=Xt ..
   omega
def eL:bA->Int->Int×Int
 | [],_=>(0,1)
 | b::bs,h=>if inS b.1 h=true then (b.2,(b.1.length:Int)) else eL bs h
def gY (bs:bA) (h:Int):Int:=(eL bs h).1*60 / (eL bs h).2
theorem kN {b:List Int×Int} {bs:bA} {h:Int} (q:inS b.1 h=true):eL (b::bs) h=(b.2,(b.1.length:Int)):=by show (if _ then _ else _)=_; rw [if_pos q]
theorem jX {b:List Int×Int} {bs:bA} {h:Int} (q:inS b.1 h=false):eL (b::bs) h=eL bs h:=by show (if _ then _ else _)=_; rw [if_neg (by rw [q]; decide)]
theorem aEg {left:List Int} {rows:bA} (ok:cU left rows) (p:Int->Bool):0<=wIn rows p:=mY fun r hr=>by
 have:=(ok r hr).2.2
 split
 ·exact this
 ·exact Xf _
theorem nB:∀ {bs:bA} {left:List Int} {rows:bA},bX left rows bs->∀ h∈left,∃ b∈bs,h∈b.1/\eL bs h=(b.2,(b.1.length:Int))
 | [],left,rows,hb,h,hh=>by rw [show left = [] from hb] at hh; cases hh
 | b::bs,left,rows,hb,h,hh=>by
  cases q:inS b.1 h with
  | true=>exact ⟨b,Qk ..,bH.mp q,kN q⟩
  | false =>
   obtain ⟨c,c1,c2,c3⟩:=nB hb.2 h (Qr.mpr ⟨hh,by rw [q]; rfl⟩)
   exact ⟨c,Qq _ c1,c2,(jX q).trans c3⟩
theorem aDC {k:Nat} {m:Int} (h0:0 < k) (h6:k<=6):m*60 / (k:Int)*k=m*60:=by
 have:k=1∨k=2∨k=3∨k=4∨k=5∨k=6:=by omega
 rcases this with rfl | rfl | rfl | rfl | rfl | rfl <;> omega
theorem lT:∀ {bs:bA} {left:List Int} {rows:bA},cU left rows->bX left rows bs->∀ b∈bs,b.1≠[]/\b.1.length<=left.length/\0<=b.2/\∀ h∈b.1,h∈left
 | [],_,_,_,_,b,hb=>by cases hb
 | c::bs,left,rows,ok,h,b,hb=>by
  rcases Ql.mp hb with rfl | hb
  ·obtain ⟨a1,a2,a3,_⟩:=h.1
   refine ⟨a1,?_,by rw [a3]; exact aEg ok _,fun x hx=>?_⟩
   ·rw [a2]; exact Je _ _
   ·rw [a2] at hx; exact (Qr.mp hx).1
  ·obtain ⟨i1,i2,i3,i4⟩:=lT ok.redu h.2 b hb
   exact ⟨i1,Qt i2 (Je _ _),i3,fun x hx=>(Qr.mp (i4 x hx)).1⟩
def tkr:bA->List Int->List Int
 | [],l=>l
 | b::bs,l=>if l.all (inS b.1)=true then l else tkr bs (l.filter fun h=>!inS b.1 h)
theorem wN (f:List Int×Int->Int) (s:List Int):∀ rows:bA,aN (rows.map f)=aN (rows.map fun r=>if r.1.all (inS s)=true then f r else 0)+aN ((rows.filter fun r=>!(r.1.all (inS s))).map f):=fun rows=>by
 rw [uE,<- mZ]
theorem wO:∀ {bs:bA} {left:List Int} {rows:bA},bX left rows bs->cU left rows->left.length<=6->∀ R:Int->Bool,60*aN (rows.map fun r=>if (tkr bs r.1).all R=true then r.2 else 0)<=aN (left.map fun h=>if R h=true then gY bs h else 0)
 | [],left,rows,hb,ok,_,R=>by
  rw [show left = [] from hb] at ok ⊢
  have:rows = []:=by
   cases rows with
   | nil=>rfl
   | cons r _ =>
    obtain ⟨a,b,_⟩:=ok r (Qk ..)
    cases q:r.1 with
    | nil=>exact absurd q a
    | cons x _=>exact absurd (b x (by rw [q]; exact Qk ..)) Ja
  rw [this]
  exact Xf _
 | b::bs,left,rows,hb,ok,h6,R=>by
  have ih:=wO hb.2 ok.redu (Qt (Je _ _) h6) R
  obtain ⟨a1,a2,a3,a4⟩:=hb.1
  have l6:b.1.length<=6:=by rw [a2]; exact Qt (Je _ _) h6
  have l0:0 < b.1.length:=Jp.mpr a1
  have dv:=aDC (m:=b.2) l0 l6
  -- the works
  have e1:aN (rows.map fun r=>if (tkr (b::bs) r.1).all R=true then r.2 else 0)=wIn rows (fun h=>inS b.1 h && R h)+aN ((redu rows b.1).map fun r=>if (tkr bs r.1).all R=true then r.2 else 0):=by
   rw [wN _ b.1]
   congr 1
   ·unfold wIn
    refine bE fun r _=>?_
    have:r.1.all (fun h=>inS b.1 h && R h)=(r.1.all (inS b.1) && r.1.all R):=by
     induction r.1 with
     | nil=>rfl
     | cons x l ih2=>rw [Yh,Yh,Yh,ih2]; cases inS b.1 x <;> cases R x <;> cases l.all (inS b.1) <;> rfl
    rw [this]
    cases q:r.1.all (inS b.1) with
    | true=>rw [if_pos rfl,show tkr (b::bs) r.1=r.1 by show (if _ then _ else _)=_; rw [if_pos q],Xr]
    | false=>rw [if_neg (by decide),Yc,if_neg (by decide)]
   ·unfold redu
    rw [Xl]
    refine bE fun r hr=>?_
    have q:r.1.all (inS b.1)=false:=by
     have:=(Qr.mp hr).2
     cases z:r.1.all (inS b.1) with
     | true=>rw [z] at this; cases this
     | false=>rfl
    show _=if (tkr bs (r.1.filter fun h=>!inS b.1 h)).all R=true then r.2 else 0
    rw [show tkr (b::bs) r.1=tkr bs (r.1.filter fun h=>!inS b.1 h) by show (if _ then _ else _)=_; rw [if_neg (by rw [q]; decide)]]
  -- the rooms
  have e2:aN (left.map fun h=>if R h=true then gY (b::bs) h else 0)=eK left (fun h=>inS b.1 h && R h)*(b.2*60 / b.1.length)+aN ((left.filter fun h=>!inS b.1 h).map fun h=>if R h=true then gY bs h else 0):=by
   rw [mZ _ (inS b.1)]
   congr 1
   ·rw [uE,Yv]
    have:(fun a=>R a && inS b.1 a)=fun h=>inS b.1 h && R h:=by funext x; exact Bool.and_comm ..
    rw [this]
    unfold eK
    refine lS fun h hh=>?_
    have q:=(Qr.mp hh).2
    rw [Jj] at q
    unfold gY
    rw [kN q.1]
   ·refine bE fun h hh=>?_
    have q:=(Qr.mp hh).2
    have q':inS b.1 h=false:=by cases z:inS b.1 h with
     | true=>rw [z] at q; cases q
     | false=>rfl
    unfold gY
    rw [jX q']
  rw [e1,e2,Yn]
  have h1:=(a4 fun h=>inS b.1 h && R h).1
  have:60*wIn rows (fun h=>inS b.1 h && R h)<=eK left (fun h=>inS b.1 h && R h)*(b.2*60 / b.1.length):=by
   refine Yq (a:=(b.1.length:Int)) ?_ (by omega)
   rw [Jo,Jo,dv]
   have e3:eK left (fun h=>inS b.1 h && R h)*(b.2*60)=60*(b.2*eK left (fun h=>inS b.1 h && R h)):=by
    rw [Xh b.2 60,<- Jo,Xh _ 60,Jo,Xh _ b.2]
   rw [e3]
   omega
  omega
theorem zL:∀ {bs:bA} {left:List Int} {rows:bA},bX left rows bs->cU left rows->left.length<=6->60*aN (rows.map (·.2))=aN (left.map (gY bs))
 | [],left,rows,hb,ok,_=>by
  rw [show left = [] from hb] at ok ⊢
  have:rows = []:=by
   cases rows with
   | nil=>rfl
   | cons r _ =>
    obtain ⟨a,b,_⟩:=ok r (Qk ..)
    cases q:r.1 with
    | nil=>exact absurd q a
    | cons x _=>exact absurd (b x (by rw [q]; exact Qk ..)) Ja
  rw [this]
  rfl
 | b::bs,left,rows,hb,ok,h6=>by
  have ih:=zL hb.2 ok.redu (Qt (Je _ _) h6)
  obtain ⟨a1,a2,a3,_⟩:=hb.1
  have l6:b.1.length<=6:=by rw [a2]; exact Qt (Je _ _) h6
  have l0:0 < b.1.length:=Jp.mpr a1
  have dv:=aDC (m:=b.2) l0 l6
  rw [wN _ b.1 rows,mZ _ (inS b.1) left,Yn]
  have e1:aN (rows.map fun r=>if r.1.all (inS b.1)=true then r.2 else 0)=b.2:=a3.symm
  have e5:aN (b.1.map (gY (b::bs)))=(b.1.length:Int)*(b.2*60 / b.1.length):=lS fun h hh=>by unfold gY; rw [kN (bH.mpr hh)]
  rw [e1,<- a2,e5]
  have e2:aN ((left.filter fun h=>!inS b.1 h).map (gY (b::bs)))=aN ((left.filter fun h=>!inS b.1 h).map (gY bs)):=bE fun h hh=>by
   have q:=(Qr.mp hh).2
   have q':inS b.1 h=false:=by cases z:inS b.1 h with
    | true=>rw [z] at q; cases q
    | false=>rfl
   unfold gY
   rw [jX q']
  have e3:aN ((redu rows b.1).map (·.2))=aN ((rows.filter fun r=>!(r.1.all (inS b.1))).map (·.2)):=by
   unfold redu
   rw [Xl]
   rfl
  rw [e2,<- ih,e3]
  have e4:(b.1.length:Int)*(b.2*60 / b.1.length)=b.2*60:=by rw [Xh]; exact dv
  omega
def jL (x y:Int×Int):Bool:=decide (x.1*y.2 < y.1*x.2)
theorem sX:∀ {bs:bA} {left:List Int} {rows:bA},bX left rows bs->∀ l:List Int,(∀ h∈l,h∈left)->∀ h∈tkr bs l,h∈l/\∀ o∈l,jL (eL bs o) (eL bs h)=false
 | [],left,rows,hb,l,hl,h,hh=>by
  have hm:=hl h hh
  rw [show left = [] from hb] at hm
  cases hm
 | b::bs,left,rows,hb,l,hl,h,hh=>by
  cases q:l.all (inS b.1) with
  | true =>
   have hh':h∈l:=by
    have:tkr (b::bs) l=l:=by show (if _ then _ else _)=_; rw [if_pos q]
    rw [this] at hh; exact hh
   refine ⟨hh',fun o ho=>?_⟩
   rw [kN (Qu.mp q o ho),kN (Qu.mp q h hh')]
   exact decide_eq_false (by show ¬ b.2*_ < b.2*_; omega)
  | false =>
   have hh':h∈tkr bs (l.filter fun h=>!inS b.1 h):=by
    have:tkr (b::bs) l=tkr bs (l.filter fun h=>!inS b.1 h):=by show (if _ then _ else _)=_; rw [if_neg (by rw [q]; decide)]
    rw [this] at hh; exact hh
   obtain ⟨i1,i2⟩:=sX hb.2 (l.filter fun h=>!inS b.1 h) (fun x hx=>by
    obtain ⟨x1,x2⟩:=Qr.mp hx
    exact Qr.mpr ⟨hl x x1,x2⟩) h hh'
   obtain ⟨j1,j2⟩:=Qr.mp i1
   have no:∀ x,(!inS b.1 x)=true->inS b.1 x=false:=fun x hx=>by cases z:inS b.1 x with
    | true=>rw [z] at hx; cases hx
    | false=>rfl
   refine ⟨j1,fun o ho=>?_⟩
   rw [jX (no h j2)]
   cases z:inS b.1 o with
   | false=>rw [jX z]; exact i2 o (Qr.mpr ⟨ho,by rw [z]; rfl⟩)
   | true =>
    rw [kN z]
    obtain ⟨c,c1,_,c3⟩:=nB hb.2 h (Qr.mpr ⟨hl h j1,j2⟩)
    rw [c3]
    have:=(qU hb.1 hb.2 c c1).2
    exact decide_eq_false (by show ¬ b.2*(c.1.length:Int) < c.2*(b.1.length:Int); omega)
def cV (f:Int->Int×Int) (able:List Int):List Int:=able.filter fun h=>!(able.any fun o=>jL (f o) (f h))
theorem qV {f:Int->Int×Int} {able:List Int} {h:Int}:h∈cV f able↔h∈able/\∀ o∈able,jL (f o) (f h)=false:=by
 unfold cV
 rw [Qr,Bool.not_eq_true',List.any_eq_false]
 exact ⟨fun ⟨a,b⟩=>⟨a,fun o ho=>by have:=b o ho; cases z:jL (f o) (f h) with
  | true=>exact absurd z this
  | false=>rfl⟩,fun ⟨a,b⟩=>⟨a,fun o ho=>by rw [b o ho]; decide⟩⟩
theorem xT {bs:bA} {left:List Int} {rows:bA} (hb:bX left rows bs) (ok:cU left rows) (h6:left.length<=6) (R:Int->Bool):60*aN (rows.map fun r=>if (cV (eL bs) r.1).all R=true then r.2 else 0)<=aN (left.map fun h=>if R h=true then gY bs h else 0):=by
 have h1:=wO hb ok h6 R
 have h2:aN (rows.map fun r=>if (cV (eL bs) r.1).all R=true then r.2 else 0)<=aN (rows.map fun r=>if (tkr bs r.1).all R=true then r.2 else 0):=jW fun r hr=>by
  obtain ⟨o1,o2,o3⟩:=ok r hr
  by_cases c:(cV (eL bs) r.1).all R=true
  ·rw [if_pos c,if_pos (Qu.mpr fun h hh=>Qu.mp c h (qV.mpr (sX hb r.1 o2 h hh)))]
   exact Xf _
  ·rw [if_neg c]
   split
   ·exact o3
   ·exact Xf _
 omega
theorem qW:∀ hs:List Int,∀ s∈gZ hs,s≠[]:=by
 refine jC (fun s hs=>by cases hs) fun l x ih s hs=>?_
 rw [hJ] at hs
 rcases Jm.mp hs with hs | hs
 ·exact ih s hs
 ·rcases Ql.mp hs with rfl | hs
  ·simp
  ·obtain ⟨s',_,rfl⟩:=Qx.mp hs
   simp
theorem sY:∀ hs:List Int,∀ s∈gZ hs,List.Sublist s hs:=by
 refine jC (fun s hs=>by cases hs) fun l x ih s hs=>?_
 rw [hJ] at hs
 rcases Jm.mp hs with hs | hs
 ·exact (ih s hs).trans (List.sublist_append_left _ _)
 ·rcases Ql.mp hs with rfl | hs
  ·exact List.sublist_append_right _ _
  ·obtain ⟨s',h1,rfl⟩:=Qx.mp hs
   exact (ih s' h1).append (List.Sublist.refl _)
theorem xU (p:Int->Bool):∀ hs:List Int,hs.filter p≠[]->hs.filter p∈gZ hs:=by
 refine jC (fun h=>absurd rfl h) fun l x ih h=>?_
 rw [Xj] at h ⊢
 rw [hJ]
 cases q:p x with
 | false =>
  have e : [x].filter p = []:=by rw [Qw,q]; rfl
  rw [e,Jw] at h ⊢
  exact Jq _ (ih h)
 | true =>
  have e : [x].filter p = [x]:=by rw [Qw,q]; rfl
  rw [e]
  refine Qo _ ?_
  by_cases c:l.filter p = []
  ·rw [c]; exact Qk ..
  ·exact Qq _ (Qx.mpr ⟨_,ih c,rfl⟩)
theorem wP {s:List Int}:∀ {l:List Int},List.Sublist s l->l.Nodup->s=l.filter (inS s):=by
 intro l h nd
 have key:∀ (l s:List Int),List.Sublist s l->l.Nodup->∀ t:List Int,(∀ x,x∈l->(x∈t↔x∈s))->l.filter (inS t)=s:=by
  intro l s h
  induction h with
  | slnil=>intro _ _ _; rfl
  | cons a h ih =>
   intro nd t ht
   have nd':=Xi.mp nd
   have:inS t a=false:=decide_eq_false fun z=>nd'.1 (h.subset ((ht a (Qk ..)).mp z))
   rw [Qw,this]
   exact ih nd'.2 t fun x hx=>ht x (Qq _ hx)
  | cons_cons a h ih =>
   intro nd t ht
   have nd':=Xi.mp nd
   have:inS t a=true:=bH.mpr ((ht a (Qk ..)).mpr (Qk ..))
   rw [Qw,this,if_pos rfl]
   congr 1
   refine ih nd'.2 t fun x hx=>?_
   rw [ht x (Qq _ hx),Ql]
   exact ⟨fun z=>z.resolve_left fun e=>nd'.1 (by rw [<- e]; exact hx),.inr⟩
 exact (key l s h nd s fun _ _=>Iff.rfl).symm
def mH (rows:bA) (done:List (List Int)) (b:List Int) (m:Int):Prop :=
 (done = []/\b = []/\m=0)∨(b∈done/\m=wIn rows (inS b)/\∀ s∈done,wIn rows (inS s)*b.length<=m*s.length/\(wIn rows (inS s)*b.length=m*s.length->s.length<=b.length))
theorem aAw {rows:bA} {done:List (List Int)} {b s:List Int} {m:Int} (hne:∀ t∈done,t≠[]) (hs:s≠[]) (h:mH rows done b m) :
  (0 < wIn rows (inS s)*b.length - m*s.length∨wIn rows (inS s)*b.length - m*s.length=0/\(b.length:Int) < s.length->mH rows (done++[s]) s (wIn rows (inS s))) /\
  (¬ (0 < wIn rows (inS s)*b.length - m*s.length∨wIn rows (inS s)*b.length - m*s.length=0/\(b.length:Int) < s.length)->mH rows (done++[s]) b m):=by
 have ps:(0:Int) < s.length:=by have:=Jp.mpr hs; omega
 generalize hW:wIn rows (inS s)=W
 rcases h with ⟨rfl,rfl,rfl⟩ | ⟨hb,hm,ha⟩
 ·constructor
  ·intro _
   refine .inr ⟨by simp,hW.symm,fun t ht=>?_⟩
   rw [Zv] at ht
   rw [Qs.mp ht,hW]
   exact ⟨Xf _,fun _=>Qh _⟩
  ·intro c
   refine absurd (.inr ⟨?_,by show ((0:Nat):Int) < _; omega⟩) c
   show W*((0:Nat):Int) - 0*_=0
   omega
 ·have pb:(0:Int) < b.length:=by have:=Jp.mpr (hne b hb); omega
  constructor
  ·intro c
   refine .inr ⟨by simp,hW.symm,fun t ht=>?_⟩
   rcases Jm.mp ht with ht | ht
   ·obtain ⟨h1,h2⟩:=ha t ht
    generalize hT:wIn rows (inS t)=T at h1 h2
    have pt:(0:Int) < t.length:=by have:=Jp.mpr (hne t ht); omega
    -- T/t<=m/b<=W/s
    have k1:T*b.length*s.length<=m*t.length*s.length:=Xy h1 (Zh ps)
    have k2:m*s.length*t.length<=W*b.length*t.length:=Xy (by omega) (Zh pt)
    have e1:T*(b.length:Int)*s.length=T*s.length*b.length:=Xt ..
    have e2:m*(t.length:Int)*s.length=m*s.length*t.length:=Xt ..
    have e3:W*(b.length:Int)*t.length=W*t.length*b.length:=Xt ..
    refine ⟨Yq (a:=(b.length:Int)) (by omega) pb,fun z=>?_⟩
    have z':T*s.length*b.length=W*t.length*b.length:=by rw [z]
    have f2:m*s.length*t.length=W*b.length*t.length:=by omega
    have g2:m*(s.length:Int)=W*b.length:=Yr (by omega) f2
    have f1:T*b.length*s.length=m*t.length*s.length:=by omega
    have g1:T*(b.length:Int)=m*t.length:=Yr (by omega) f1
    have:=h2 g1
    omega
   ·rw [Qs.mp ht,hW]
    exact ⟨Xf _,fun _=>Qh _⟩
  ·intro c
   refine .inr ⟨Jq _ hb,hm,fun t ht=>?_⟩
   rcases Jm.mp ht with ht | ht
   ·exact ha t ht
   ·rw [Qs.mp ht,hW]
    exact ⟨by omega,fun z=>by omega⟩
theorem aC1 {left:List Int} {rows:bA} {b:List Int} {m:Int} (nd:left.Nodup) (ok:cU left rows) (hl:left≠[]) (h:mH rows (gZ left) b m):qR left rows b m:=by
 rcases h with ⟨h0,_⟩ | ⟨hb,hm,ha⟩
 ·cases left with
  | nil=>exact absurd rfl hl
  | cons x l =>
   have:=aAu (x::l) x (Qk ..)
   rw [h0] at this; cases this
 ·refine ⟨qW _ _ hb,wP (sY _ _ hb) nd,hm,fun p=>?_⟩
  by_cases c:left.filter p = []
  ·have e1:wIn rows p=0:=fU fun r hr=>if_neg fun z=>by
    obtain ⟨r1,r2,_⟩:=ok r hr
    cases q:r.1 with
    | nil=>exact r1 q
    | cons x t =>
     have hx:x∈r.1:=by rw [q]; exact Qk ..
     have:x∈left.filter p:=Qr.mpr ⟨r2 x hx,Qu.mp z x hx⟩
     rw [c] at this; cases this
   have e2:eK left p=0:=by unfold eK; rw [c]; rfl
   rw [e1,e2]
   exact ⟨by omega,fun _=>by omega⟩
  ·have h1:=ha _ (xU p left c)
   have e:wIn rows (inS (left.filter p))=wIn rows p:=bE fun r hr=>by
    obtain ⟨_,r2,_⟩:=ok r hr
    have:r.1.all (inS (left.filter p))=r.1.all p:=by
     rw [Jl,Qu,Qu]
     exact ⟨fun z x hx=>(Qr.mp (bH.mp (z x hx))).2,fun z x hx=>bH.mpr (Qr.mpr ⟨r2 x hx,z x hx⟩)⟩
    rw [this]
   rw [e] at h1
   exact ⟨h1.1,fun z=>by unfold eK; have:=h1.2 z; omega⟩
theorem iO (n:Nat):(aQ n).Nodup:=by
 unfold aQ
 rw [Xb,Zy]
 refine List.Pairwise.imp ?_ List.nodup_range
 intro a b h z
 exact h (by omega)
theorem oC (n:Nat):aQ (n+1)=aQ n++[(n:Int)]:=by
 unfold aQ
 rw [List.range_succ,Qp]
 rfl
def gU (hl:Nat->Int->Int) (m:Nat) (h:Int):Int:=aN ((List.range m).map fun w=>hl w h)
def xV (hl:Nat->Int->Int) (n w:Nat):Int:=aN ((aQ (n+1)).map (hl w))
def lW (tk:List (List Int)) (w:Nat):List Int:=tk.getD w []
def EdP (tk:List (List Int)) (hl:Nat->Int->Int) (g:Int) (w:Nat) (t:Int):Prop:=w < tk.length/\0 < hl w g/\t∈lW tk w
structure Spr (n:Nat) (tk:List (List Int)) (am:Nat->Int) (rm:Int->Int) (hl:Nat->Int->Int) (room:Int->Int):Prop where
 nn:∀ w h,0<=hl w h
 sup:∀ w h,w < tk.length->0 < hl w h->h=n∨h∈lW tk w
 rows:∀ w,w < tk.length->xV hl n w=am w
 cols:∀ h:Int,0<=h->h < n->gU hl tk.length h+room h=rm h
 rnn:∀ h,0<=room h
def aBQ (n:Nat) (tk:List (List Int)) (am:Nat->Int) (rm:Int->Int):Prop :=
 ∀ R:Int->Bool,aN ((List.range tk.length).map fun w=>if (lW tk w).all R=true then am w else 0)<=aN ((aQ n).map fun h=>if R h=true then rm h else 0)
theorem aEh {n:Nat} {tk:List (List Int)} {am:Nat->Int} {rm:Int->Int} {hl:Nat->Int->Int} {room:Int->Int} (S:Spr n tk am rm hl room) (hall:aBQ n tk am rm) {os:List Int} (hc:∀ g∈os,∀ w t,EdP tk hl g w t->t∈os) (hn:(n:Int)∈os) (pos:0 < gU hl tk.length n) :
  ∃ h∈os,0<=h/\h < n/\0 < room h:=by
 by_cases c:∃ h∈os,0<=h/\h < n/\0 < room h
 ·exact c
 ·exfalso
  have z:∀ h∈os,0<=h->h < n->room h=0:=fun h h1 h2 h3=>by
   have:=S.rnn h
   by_cases q:0 < room h
   ·exact absurd ⟨h,h1,h2,h3,q⟩ c
   ·omega
  have h1:=hall (inS os)
  have e1:aN ((aQ n).map fun h=>if inS os h=true then rm h else 0)=aN ((List.range tk.length).map fun w=>aN ((aQ n).map fun h=>if inS os h=true then hl w h else 0)):=by
   rw [qQ]
   refine bE fun h hh=>?_
   obtain ⟨u1,u2⟩:=cH.mp hh
   by_cases q:inS os h=true
   ·have:=S.cols h u1 u2
    rw [z h (bH.mp q) u1 u2] at this
    rw [if_pos q,<- this]
    unfold gU
    rw [Wx]
    exact bE fun w _=>by rw [if_pos q]
   ·rw [if_neg q]
    exact (fU fun w _=>by rw [if_neg q]).symm
  have e2:aN ((List.range tk.length).map fun w=>aN ((aQ n).map fun h=>if inS os h=true then hl w h else 0)+hl w n)<=aN ((List.range tk.length).map fun w=>if (lW tk w).all (inS os)=true then am w else 0):=by
   refine jW fun w hw=>?_
   have hw':=Jy.mp hw
   by_cases q:(lW tk w).all (inS os)=true
   ·rw [if_pos q,<- S.rows w hw']
    unfold xV
    rw [oC,Qp,iN]
    have:aN ((aQ n).map fun h=>if inS os h=true then hl w h else 0)<=aN ((aQ n).map (hl w)):=jW fun h _=>by
     have:=S.nn w h
     split <;> omega
    show _<=_+(hl w n+0)
    omega
   ·rw [if_neg q]
    have hz:∀ g∈os,hl w g=0:=fun g hg=>by
     have:=S.nn w g
     by_cases p:0 < hl w g
     ·exact absurd (Qu.mpr fun t ht=>bH.mpr (hc g hg w t ⟨hw',p,ht⟩)) q
     ·omega
    rw [hz n hn,fU fun h _=>?_]
    ·omega
    ·by_cases p:inS os h=true
     ·rw [if_pos p,hz h (bH.mp p)]
     ·rw [if_neg p]
  rw [gE] at e2
  unfold gU at pos
  omega
def mvP (hl:Nat->Int->Int) (w:Nat) (g t u:Int):Nat->Int->Int:=fun v h=>if v=w then hl v h - (if h=g then u else 0)+(if h=t then u else 0) else hl v h
theorem aEi {hl:Nat->Int->Int} {m w:Nat} {g t u:Int} (hw:w < m) (h:Int):gU (mvP hl w g t u) m h=gU hl m h - (if h=g then u else 0)+(if h=t then u else 0):=by
 unfold gU
 have e:∀ v,mvP hl w g t u v h=hl v h+(if v=w then (if h=t then u else 0) - (if h=g then u else 0) else 0):=fun v=>by
  unfold mvP
  split <;> omega
 rw [bE fun v _=>e v,gE,lC _ w List.nodup_range (Jy.mpr hw)]
 omega
theorem aEj {hl:Nat->Int->Int} {n w:Nat} {g t u:Int} (g0:0<=g) (g1:g<=n) (t0:0<=t) (t1:t<=n) (v:Nat):xV (mvP hl w g t u) n v=xV hl n v:=by
 unfold xV
 by_cases c:v=w
 ·have e:∀ h,mvP hl w g t u v h=hl v h+((if h=t then u else 0)+(if h=g then -u else 0)):=fun h=>by
   unfold mvP
   rw [if_pos c]
   split <;> split <;> omega
  have hm:∀ x:Int,0<=x->x<=n->x∈aQ (n+1):=fun x h0 h1=>cH.mpr ⟨h0,by omega⟩
  rw [bE fun h _=>e h,gE,gE,lC _ t (iO _) (hm t t0 t1),lC _ g (iO _) (hm g g0 g1)]
  omega
 ·exact bE fun h _=>by unfold mvP; rw [if_neg c]
def qX (E:Int->Nat->Int->Prop):Int->List (Nat×Int×Int)->Int->Prop
 | h,[],x=>h=x
 | h,s::r,x=>s.2.1=h/\E h s.1 s.2.2/\qX E s.2.2 r x
def vtx (first:Int) (ss:List (Nat×Int×Int)):List Int:=first::ss.map (·.2.2)
theorem kO {E:Int->Nat->Int->Prop}:∀ {ss:List (Nat×Int×Int)} {h x:Int},qX E h ss x->(∀ (i:Nat) s,ss[i]?=some s->(vtx h ss)[i]?=some s.2.1/\E s.2.1 s.1 s.2.2/\(vtx h ss)[i+1]?=some s.2.2)/\(vtx h ss)[ss.length]?=some x
 | [],h,x,e=>⟨fun i s z=>by simp at z,by rw [show h=x from e]; rfl⟩
 | s::r,h,x,e=>by
  obtain ⟨e1,e2,e3⟩:=e
  obtain ⟨i1,i2⟩:=kO e3
  refine ⟨fun i q z=>?_,?_⟩
  ·cases i with
   | zero =>
    have z':s=q:=by simpa using z
    subst z'
    exact ⟨by rw [e1]; rfl,by rw [e1]; exact e2,rfl⟩
   | succ i=>exact i1 i q (by simpa using z)
  ·show (h::s.2.2::r.map (·.2.2))[r.length+1]?=some x
   exact i2
structure Gone (n:Nat) (tk:List (List Int)) (am:Nat->Int) (h0:Nat->Int->Int) (ss:List (Nat×Int×Int)) (u:Int) (i:Nat) (hl:Nat->Int->Int):Prop where
 nn:∀ w h,0<=hl w h
 sup:∀ w h,w < tk.length->0 < hl w h->h=n∨h∈lW tk w
 rows:∀ w,w < tk.length->xV hl n w=am w
 col:∀ c,(vtx n ss)[i]?=some c->∀ h,gU hl tk.length h=gU h0 tk.length h - (if h=n then u else 0)+(if h=c then u else 0)
 more:∀ w h,(∀ j:Nat,j < i->(vtx n ss)[j]?≠some h)->h0 w h<=hl w h
theorem aEk {n:Nat} {tk:List (List Int)} {am:Nat->Int} {rm:Int->Int} {hl:Nat->Int->Int} {room:Int->Int} {ss:List (Nat×Int×Int)} {u:Int} (S:Spr n tk am rm hl room):Gone n tk am hl ss u 0 hl :=
 ⟨S.nn,S.sup,S.rows,fun c hc h=>by
  have:(n:Int)=c:=by simpa [vtx] using hc
  rw [this]; omega,fun w h _=>Xf _⟩
theorem aAx {n:Nat} {tk:List (List Int)} {am:Nat->Int} {h0 hl:Nat->Int->Int} {ss:List (Nat×Int×Int)} {u x:Int} {i:Nat} {w:Nat} {g t:Int} (G:Gone n tk am h0 ss u i hl) (hp:qX (EdP tk h0) n ss x) (nd:(vtx n ss).Nodup) (hs:ss[i]?=some (w,g,t)) (hu0:0<=u) (hu:∀ s∈ss,u<=h0 s.1 s.2.1)
  (htk:∀ w,∀ h∈lW tk w,0<=h/\h < n):Gone n tk am h0 ss u (i+1) (mvP hl w g t u)/\u<=hl w g/\g≠t:=by
 obtain ⟨p1,_⟩:=kO hp
 obtain ⟨a1,⟨a2,a3,a4⟩,a5⟩:=p1 i _ hs
 have gi:∀ j:Nat,j < i->(vtx n ss)[j]?≠some g:=fun j hj z=>by
  have:=(Zz (Qd.mp z).1 nd).mp (z.trans a1.symm)
  omega
 have gt:g≠t:=fun z=>by
  subst z
  have:=(Zz (Qd.mp a1).1 nd).mp (a1.trans a5.symm)
  omega
 have hug:u<=hl w g:=Int.le_trans (hu _ (Qe hs)) (G.more w g gi)
 have gr:0<=g/\g<=n:=by
  cases i with
  | zero =>
   have:(n:Int)=g:=by simpa [vtx] using a1
   omega
  | succ i =>
   have hi:i < ss.length:=by
    have:=(Qd.mp a1).1
    simp [vtx] at this
    omega
   obtain ⟨_,⟨_,_,b3⟩,b4⟩:=p1 i _ (Qc hi)
   rw [b4] at a1
   have e:ss[i].2.2=g:=Option.some.inj a1
   rw [e] at b3
   have:=htk _ _ b3
   omega
 obtain ⟨t0,t1⟩:=htk w t a4
 refine ⟨⟨fun v h=>?_,fun v h hv hp=>?_,fun v hv=>?_,fun c hc h=>?_,fun v h hh=>?_⟩,hug,gt⟩
 ·have:=G.nn v h
  unfold mvP
  by_cases c:v=w
  ·rw [if_pos c]
   by_cases c2:h=g
   ·rw [if_pos c2,c2,c]
    split <;> omega
   ·rw [if_neg c2]
    split <;> omega
  ·rw [if_neg c]; exact this
 ·unfold mvP at hp
  by_cases c:v=w
  ·rw [if_pos c] at hp
   by_cases c2:h=t
   ·exact .inr (by rw [c,c2]; exact a4)
   ·rw [if_neg c2] at hp
    exact G.sup v h hv (by split at hp <;> omega)
  ·rw [if_neg c] at hp
   exact G.sup v h hv hp
 ·rw [aEj gr.1 gr.2 t0 (by omega)]
  exact G.rows v hv
 ·rw [a5] at hc
  have e:t=c:=Option.some.inj hc
  rw [aEi a2,G.col g a1 h,e]
  omega
 ·have h1:=G.more v h fun j hj=>hh j (by omega)
  unfold mvP
  by_cases c:v=w
  ·rw [if_pos c,if_neg (fun z=>hh i (by omega) (by rw [z]; exact a1))]
   split <;> omega
  ·rw [if_neg c]; exact h1
theorem aBR {n:Nat} {tk:List (List Int)} {am:Nat->Int} {rm:Int->Int} {h0 hl:Nat->Int->Int} {room:Int->Int} {ss:List (Nat×Int×Int)} {u last:Int} (S:Spr n tk am rm h0 room) (G:Gone n tk am h0 ss u ss.length hl) (hp:qX (EdP tk h0) n ss last) (hl1:last < n) (hu:u<=room last) :
  Spr n tk am rm hl (fun h=>if h=last then room h - u else room h)/\gU hl tk.length n=gU h0 tk.length n - u:=by
 have hc:=G.col last (kO hp).2
 refine ⟨⟨G.nn,G.sup,G.rows,fun h a b=>?_,fun h=>?_⟩,?_⟩
 ·have:=S.cols h a b
  rw [hc h,if_neg (show ¬ h=n by omega)]
  split <;> omega
 ·have:=S.rnn h
  show 0<=if h=last then room h - u else room h
  split
  ·rename_i e; rw [e]; omega
  ·exact this
 ·rw [hc n,if_pos rfl,if_neg (by omega)]; omega
theorem aFd {n:Nat} {tk:List (List Int)} {am:Nat->Int} {rm:Int->Int} (ha:∀ w,0<=am w) (hr:∀ h,0<=rm h):Spr n tk am rm (fun w h=>if h=n then am w else 0) (fun h=>rm h):=by
 refine ⟨fun w h=>?_,fun w h _ hp=>?_,fun w _=>?_,fun h h0 h1=>?_,hr⟩
 ·show 0<=if h=n then am w else 0
  split
  ·exact ha w
  ·exact Xf _
 ·by_cases c:h=n
  ·exact .inl c
  ·rw [if_neg c] at hp; omega
 ·exact lC (am w) (n:Int) (iO _) (cH.mpr ⟨by omega,by omega⟩)
 ·unfold gU
  rw [fU fun w _=>if_neg (show ¬ h=n by omega)]; omega
structure Sprd (n:Nat) (tk:List (List Int)) (am:Nat->Int) (rm:Int->Int) (hl:Nat->Int->Int):Prop where
 nn:∀ w h,0<=hl w h
 sup:∀ w h,w < tk.length->0 < hl w h->h∈lW tk w
 rows:∀ w,w < tk.length->aN ((aQ n).map (hl w))=am w
 cols:∀ h:Int,0<=h->h < n->gU hl tk.length h<=rm h
theorem aC2 {n:Nat} {tk:List (List Int)} {am:Nat->Int} {rm:Int->Int} {hl:Nat->Int->Int} {room:Int->Int} (S:Spr n tk am rm hl room) (h0:gU hl tk.length n<=0):Sprd n tk am rm hl:=by
 have z:∀ w,w < tk.length->hl w n=0:=fun w hw=>by
  have h1:hl w n<=gU hl tk.length n:=lR (f:=fun w=>hl w n) (fun v _=>S.nn v n) (Jy.mpr hw)
  have:=S.nn w n
  omega
 refine ⟨S.nn,fun w h hw hp=>(S.sup w h hw hp).resolve_left fun e=>by rw [e,z w hw] at hp; omega,fun w hw=>?_,fun h a b=>?_⟩
 ·rw [<- S.rows w hw]
  unfold xV
  rw [oC,Qp,iN]
  show _=_+(hl w n+0)
  rw [z w hw]; omega
 ·have:=S.cols h a b
  have:=S.rnn h
  omega
theorem aAy {n:Nat} {tk:List (List Int)} {am:Nat->Int} {rm:Int->Int} {hl:Nat->Int->Int} (S:Sprd n tk am rm hl) (ht:aN ((List.range tk.length).map am)=aN ((aQ n).map rm)):∀ h:Int,0<=h->h < n->gU hl tk.length h=rm h:=fun h a b=>by
 have e:aN ((aQ n).map (gU hl tk.length))=aN ((aQ n).map rm):=by
  rw [<- ht]
  show aN ((aQ n).map fun h=>aN ((List.range tk.length).map fun w=>hl w h))=_
  rw [<- qQ]
  exact bE fun w hw=>S.rows w (Jy.mp hw)
 have h1:rm h - gU hl tk.length h<=aN ((aQ n).map fun h=>rm h+(-1)*gU hl tk.length h):=by
  have:=lR (f:=fun h=>rm h+(-1)*gU hl tk.length h) (l:=aQ n) (y:=h) (fun x hx=>by
   obtain ⟨u1,u2⟩:=cH.mp hx
   have:=S.cols x u1 u2
   show 0<=rm x+(-1)*gU hl tk.length x
   omega) (cH.mpr ⟨a,b⟩)
  show rm h - _<=_
  omega
 rw [gE,jD,e] at h1
 have:=S.cols h a b
 omega
theorem wQ (a:Int) {b:Int} (_:0 < b):(Int.gcd a b:Int)*fQ a b=a:=Wo (Int.gcd_dvd_left ..)
theorem sZ (a:Int) {b:Int} (_:0 < b):(Int.gcd a b:Int)*gD a b=b:=Wo (Int.gcd_dvd_right ..)
theorem lD (a:Int) {b:Int} (hb:0 < b):0 < gD a b:=by
 have h1:=sZ a hb
 have h2:=kM (a:=a) hb
 exact Int.pos_of_mul_pos_right (a:=(Int.gcd a b:Int)) (by omega) h2
theorem tD (a:Int) {b:Int} (hb:0 < b):fQ a b*b=a*gD a b:=by
 have h1:=wQ a hb
 have h2:=sZ a hb
 calc fQ a b*b=fQ a b*((Int.gcd a b:Int)*gD a b):=by rw [h2]
  _=(Int.gcd a b:Int)*fQ a b*gD a b:=by rw [<- Jo,Xh (fQ a b)]
  _=a*gD a b:=by rw [h1]
theorem zM {k:Int} (hk:0 < k) (a b:Int):fQ (k*a) (k*b)=fQ a b/\gD (k*a) (k*b)=gD a b:=by
 have e:(Int.gcd (k*a) (k*b):Int)=k*(Int.gcd a b:Int):=by
  rw [Int.gcd_mul_left,Int.natCast_mul]
  have:(k.natAbs:Int)=k:=by omega
  rw [this]
 unfold fQ gD
 rw [e]
 exact ⟨Zw a _ hk,Zw b _ hk⟩
theorem aBS {a b c d:Int} (hb:0 < b) (hd:0 < d) (h:a*d=c*b):fQ a b=fQ c d/\gD a b=gD c d:=by
 have h1:=zM hd a b
 have h2:=zM hb c d
 have e1:d*a=b*c:=by rw [Xh d a,h,Xh]
 have e2:d*b=b*d:=Xh ..
 rw [e1,e2] at h1
 exact ⟨h1.1.symm.trans h2.1,h1.2.symm.trans h2.2⟩
theorem aC3 (a:Int) {b:Int} (hb:0 < b):fQ (fQ a b) (gD a b)=fQ a b/\gD (fQ a b) (gD a b)=gD a b:=aBS (lD a hb) hb (tD a hb)
theorem uF {a b:Int} (ha:0<=a) (hb:0 < b):0<=fQ a b:=Int.ediv_nonneg ha (by omega)
theorem pE {a b:Int} (ha:0<=a) (hb:0 < b):fQ a b<=a:=Int.ediv_le_self _ ha
theorem uG {a b:Int} (hb:0 < b):gD a b<=b:=Int.ediv_le_self _ (by omega)
def bU (x:Int×Int):Int×Int:=(fQ x.1 x.2,gD x.1 x.2)
theorem qY {x y:Int×Int} (hx:0 < x.2) (hy:0 < y.2):jL (bU x) (bU y)=jL x y:=by
 unfold jL bU
 have a1:=wQ x.1 hx
 have b1:=sZ x.1 hx
 have a2:=wQ y.1 hy
 have b2:=sZ y.1 hy
 have g1:=kM (a:=x.1) hx
 have g2:=kM (a:=y.1) hy
 generalize (Int.gcd x.1 x.2:Int)=g at a1 b1 g1
 generalize (Int.gcd y.1 y.2:Int)=k at a2 b2 g2
 show decide (fQ x.1 x.2*gD y.1 y.2 < fQ y.1 y.2*gD x.1 x.2)=_
 generalize fQ x.1 x.2=A at a1 ⊢
 generalize gD x.1 x.2=B at b1 ⊢
 generalize fQ y.1 y.2=C at a2 ⊢
 generalize gD y.1 y.2=D at b2 ⊢
 rw [<- a1,<- b1,<- a2,<- b2]
 have e1:g*A*(k*D)=(g*k)*(A*D):=by rw [Jo,Jo,<- Jo A k D,Xh A k,Jo]
 have e2:k*C*(g*B)=(g*k)*(C*B):=by rw [Jo,<- Jo C g B,Xh C g,Jo,<- Jo k g,Xh k g]
 rw [e1,e2]
 have p:0 < g*k:=Int.mul_pos g1 g2
 refine decide_eq_decide.mpr ⟨fun h=>Int.mul_lt_mul_of_pos_left h p,fun h=>Int.lt_of_mul_lt_mul_left h (Zh p)⟩
end Ab
namespace L2
open PySem PySem.Spec PyProof.Rows
section
variable {X:Cx}
def wR (i j:Int):Prop:=i.natAbs < 2^4000/\j.natAbs < 2^4000
theorem zN {i:Int} (h:i.natAbs < 2^4000):Builtin.Int.intBits i<=2^20:=by
 unfold Builtin.Int.intBits
 split
 ·exact Jf _
 ·rename_i hz
  have hz':i≠0:=by simpa using hz
  have h3:i.natAbs.log2 < 4000:=(Wz (by omega)).mpr h
  have:(2:Nat)^20=1048576:=by decide
  omega
theorem wR.ok {i j:Int} (h:wR i j):IntMulOk i j:=IntMulOk.of_bits (zN h.1) (zN h.2)
theorem eC:OpR X (binaryOp .Mult) (rI wR fun i j=>.int (i*j)):=opI fun _ _ _ _ _ _ _ hc q=>mul_int q hc.ok
def aFe (i j:Int):Prop:=0 < j/\j.natAbs < 2^4000
theorem lE:OpR X (binaryOp .FloorDiv) (rI aFe fun i j=>.int (i / j)):=opI fun i j _ _ _ _ _ hc q=>by
 have h1:(0:Int) < j:=hc.1
 refine floordiv_int (by omega) (by rw [Zl i (by omega)]; exact q) (.inl (PyProof.noPylong_of_log2 ?_))
 have h3:j.natAbs.log2 < 4000:=(Wz (by omega)).mpr hc.2
 omega
end
end L2
namespace Ab
open PySem L2
theorem wS (x y:Int):Int.gcd y (x % y)=Int.gcd x y:=by
 rw [Int.gcd_comm x y]
 refine Int.gcd_right_eq_iff.mpr fun c hc=>?_
 have h1:c ∣ y*(x / y):=Int.dvd_mul_of_dvd_left hc
 have h2:=Wi x y
 constructor
 ·intro h
  rw [<- h2]
  exact Int.dvd_add h h1
 ·intro h
  rw [Int.emod_def]
  exact Int.dvd_sub h h1
section
variable {P:Program} {w:World} {K:PySem.W.Frag} {mg:Str->Option Value} {base:Heap}
def wT:Sp:=fun vs H Q _=>∃ a b:Int,vs = [.int a,.int b]/\0 < b/\Q (.int (Int.gcd a b)) H
theorem wU:FnScope ["a", "b"] ["a", "b"] (aF oZ):=⟨rfl,rfl,rfl,by decide +kernel,rfl,by decide +kernel,by decide +kernel⟩
theorem aAz {f:Addr} {fd:FuncData} (G:Fn K mg "common" oZ ["a", "b"] f fd) (B:Bl mg):FnOk P w K mg base CX0 1 f fd ["a", "b"] wT:=by
 refine G.fn.ok wU (fun vs H Q E h=>?_) (fun cdv A outer s H vs Q E hr h=>?_)
 ·obtain ⟨a,b,rfl,_⟩:=h
  rfl
 ·obtain ⟨a,b,rfl,hb,k⟩:=h
  refine ⟨_,(aE (jP PassesOwn.never (aW vB (pv 1) aH (bJ _))
   (aI (aA0 (i:=0) (j:=1) rfl wU.nd rfl rfl (by decide) rfl rfl (aA (pv 1) (aA (bD kE (pv 0) (pv 1)) aD)) rfl)))
  (aI (aT (pv 0)))),?_⟩
  refine ⟨fun m σ H1=>∃ x y:Int,σ = [some (.int x),some (.int y)]/\H1=H/\m=y.toNat/\0<=y/\Int.gcd x y=Int.gcd a b/\(y=0->0 < x),⟨_,a,b,rfl,rfl,rfl,by omega,rfl,by omega⟩,?_⟩
  rintro m σ H1 ⟨x,y,rfl,rfl,rfl,hy,hg,hx⟩
  refine ⟨_,rfl,rfl,_,rfl,?_⟩
  refine iM (fun c=>?_) (fun c=>?_)
  ·have hy0:y≠0:=by simpa using c
   have hyp:0 < y:=by omega
   refine ⟨fun σ H2=>∃ u v:Int,σ = [some (.int u),some (.int v)]/\H2=H1/\v.toNat < y.toNat/\0<=v/\Int.gcd u v=Int.gcd a b/\(v=0->0 < u),?_,?_⟩
   ·rintro σ' H' ⟨u,v,rfl,rfl,h1,h2,h3,h4⟩
    exact ⟨_,h1,u,v,rfl,rfl,rfl,h2,h3,h4⟩
   ·refine ⟨_,rfl,_,rfl,_,rfl,_,_,rfl,rfl,hyp,_,_,rfl,?_⟩
    have l1:=Zg x hy0
    have l2:=Xs x hyp
    exact ⟨y,x % y,rfl,rfl,by omega,l1,(wS x y).trans hg,fun _=>hyp⟩
  ·have hy0:y=0:=by simpa using c
   subst hy0
   refine ⟨_,rfl,?_⟩
   have hx':=hx rfl
   have:(Int.gcd a b:Int)=x:=by rw [<- hg,Int.gcd_zero]; omega
   rw [this] at k
   exact k
def iE:Sp:=fun vs H Q _=>∃ a b:Int,vs = [.int a,.int b]/\0 < b/\b < 2^1000/\∀ p,H p=none->Q (.ref p) (upd H p (.tup [.int (fQ a b),.int (gD a b)]))
theorem aBT {a b m:Int} (hb:0 < b) (h:b < m):(Int.gcd a b:Int) < m:=Xm (Int.gcd_le_right a hb) h
theorem aFf {b:Int} (h0:0 < b) (h:b < 2^1000):b.natAbs < 2^4000:=by
 have h2:b.natAbs < 2^1000:=by
  have:((2:Int)^1000)=((2^1000:Nat):Int):=by rw [Int.natCast_pow]; rfl
  rw [this] at h
  omega
 exact Qi h2 (Zm (by decide) (by decide))
theorem wV:FnScope ["a", "b", "most"] ["a", "b"] (aF mT):=⟨rfl,rfl,rfl,by decide +kernel,rfl,by decide +kernel,by decide +kernel⟩
theorem aAA {f fC:Addr} {fd dC:FuncData} (G:Fn K mg "lowest" mT ["a", "b"] f fd) (B:Bl mg) (GC:Fn K mg "common" oZ ["a", "b"] fC dC):FnOk P w K mg base CX0 2 f fd ["a", "b"] iE:=by
 have OC:FnOk P w K mg base CX0 1 fC dC ["a", "b"] wT:=aAz GC B
 refine G.fn.ok wV (fun vs H Q E h=>?_) (fun cdv A outer s H vs Q E hr h=>?_)
 ·obtain ⟨a,b,rfl,_⟩:=h
  rfl
 ·obtain ⟨a,b,rfl,hb,hbb,k⟩:=h
  refine ⟨_,(aE (aS (i:=2) wV.nd rfl (Or.inl rfl) (bK GC OC hr rfl (aA (pv 0) (aA (pv 1) aD))))
  (aI (aT (eE (aA (bD lE (pv 0) (pv 2)) (aA (bD lE (pv 1) (pv 2)) aD)))))),?_⟩
  have g0:=kM (a:=a) hb
  have g1:=aFf g0 (aBT (a:=a) hb hbb)
  exact ⟨_,rfl,_,rfl,a,b,rfl,hb,_,rfl,_,rfl,_,_,rfl,rfl,⟨g0,g1⟩,_,rfl,_,rfl,_,_,rfl,rfl,⟨g0,g1⟩,sz2 _ _,fun p hp=>k p hp⟩
def Fra (K:PySem.W.Frag) (H:Hp) (p:Addr) (a b:Int):Prop:=SqT K H p [.int a,.int b]/\0 < b/\b < 2^200/\a.natAbs < 2^200
theorem aC4 {b:Int} (h0:0 < b) (h:b < 2^200):b.natAbs < 2^200:=by
 have:((2:Int)^200)=((2^200:Nat):Int):=by rw [Int.natCast_pow]; rfl
 rw [this] at h
 omega
theorem wW {b:Int} (h:b.natAbs < 2^200):b.natAbs < 2^4000:=Qi h (Zm (by decide) (by decide))
def xW (K:PySem.W.Frag):Sp:=fun vs H Q _=>∃ (p1 p2:Addr) (a b c d:Int),vs = [.ref p1,.ref p2]/\Fra K H p1 a b/\Fra K H p2 c d/\Q (.bl (decide (a*d < c*b))) H
theorem aEl:FnScope ["one", "other"] ["one", "other"] (aF zD):=⟨rfl,rfl,rfl,by decide +kernel,rfl,by decide +kernel,by decide +kernel⟩
theorem aC5 {f:Addr} {fd:FuncData} (G:Fn K mg "is_less" zD ["one", "other"] f fd):FnOk P w K mg base CX0 1 f fd ["one", "other"] (xW K):=by
 refine G.fn.ok aEl (fun vs H Q E h=>?_) (fun cdv A outer s H vs Q E hr h=>?_)
 ·obtain ⟨p1,p2,a,b,c,d,rfl,_⟩:=h
  rfl
 ·obtain ⟨p1,p2,a,b,c,d,rfl,⟨s1,b0,b1,a1⟩,⟨s2,d0,d1,c1⟩,k⟩:=h
  refine ⟨_,(aI (aT (jF aA2 (bD eC (aY bL (pv 0) aH (fun _ _=>rfl)) (aY bL (pv 1) aH (fun _ _=>rfl))) (bD eC (aY bL (pv 1) aH (fun _ _=>rfl)) (aY bL (pv 0) aH (fun _ _=>rfl))) (bJ _)))),?_⟩
  have bn:=wW (aC4 b0 b1)
  have dn:=wW (aC4 d0 d1)
  have an:=wW a1
  have cn:=wW c1
  exact ⟨_,rfl,p1,_,0,_,rfl,rfl,s1,rfl,_,rfl,p2,_,1,_,rfl,rfl,s2,rfl,a,d,rfl,rfl,⟨an,dn⟩,_,rfl,p2,_,0,_,rfl,rfl,s2,rfl,_,rfl,p1,_,1,_,rfl,rfl,s1,rfl,c,b,rfl,rfl,⟨cn,bn⟩,_,_,rfl,rfl,k⟩
end
theorem aBU {b:Bool} {A B:Prop} (e:b=false) (h:B):if b=true then A else B:=by subst e; exact eF h
theorem aBV {b:Bool} {A B:Prop} (e:b=true) (h:A):if b=true then A else B:=by subst e; exact iT h
theorem zO (v:V):(!decide (v=v))=false:=by simp
def eM (x:Int×Int):PyData:=.tuple [.int x.1,.int x.2]
theorem fX {K:PySem.W.Frag} {H:Hp} {x:Int×Int} {v:V}:Den K H (eM x) v↔∃ p,v=.ref p/\SqT K H p [.int x.1,.int x.2]:=by
 constructor
 ·intro h
  obtain ⟨p,xs,rfl,hp,hx⟩:=bV.mp h
  obtain ⟨x1,r1,rfl,d1,hr1⟩:=aJ.mp hx
  obtain ⟨x2,r2,rfl,d2,hr2⟩:=aJ.mp hr1
  rw [aL.mp hr2,dM.mp d1,dM.mp d2] at hp
  exact ⟨p,rfl,hp⟩
 ·rintro ⟨p,rfl,hp⟩
  exact bV.mpr ⟨p,_,rfl,hp,aJ.mpr ⟨_,_,rfl,dM.mpr rfl,aJ.mpr ⟨_,_,rfl,dM.mpr rfl,aL.mpr rfl⟩⟩⟩
def aC6 (x:Int×Int):Prop:=0 < x.2/\x.2 < 2^200/\x.1.natAbs < 2^200
theorem uH {K:PySem.W.Frag} {H:Hp} {p:Addr} {x:Int×Int} (h:SqT K H p [.int x.1,.int x.2]) (o:aC6 x):Fra K H p x.1 x.2:=⟨h,o.1,o.2.1,o.2.2⟩
theorem bQ {α:Type} {l:List α} {i:Nat} {x:α} (h:l[i]?=some x):l.take (i+1)=l.take i++[x]:=by rw [Ya,h]; rfl
theorem bM {K:PySem.W.Frag} {H:Hp} {α:Type} {f:α->PyData} {ps:List α} {vs:List V} (h:aO K H (ps.map f) vs) {i:Nat} {v:V} (hv:vs[i]?=some v):∃ x,ps[i]?=some x/\Den K H (f x) v:=by
 obtain ⟨d,hd,hden⟩:=jS h hv
 rw [Qg] at hd
 obtain ⟨x,hx,rfl⟩:=Jb.mp hd
 exact ⟨x,hx,hden⟩
section
variable {P:Program} {w:World} {K:PySem.W.Frag} {mg:Str->Option Value} {base:Heap}
variable {fW fH fK fB fNB:Addr} {dW dH dK dB dNB:FuncData}
def nC:Sp:=fun vs H Q _=>∃ i:Int,vs = [.int i]/\Q (.bl true) H
theorem aBW:FnScope ["found"] ["found"] (aF mV):=⟨rfl,rfl,rfl,by decide +kernel,rfl,by decide +kernel,by decide +kernel⟩
theorem aAB {f:Addr} {fd:FuncData} (G:Fn K mg "_law_awhole" mV ["found"] f fd) (B:Bl mg):FnOk P w K mg base CX0 1 f fd ["found"] nC:=by
 refine G.fn.ok aBW (fun vs H Q E h=>?_) (fun cdv A outer s H vs Q E hr h=>?_)
 ·obtain ⟨i,rfl,_⟩:=h
  rfl
 ·obtain ⟨i,rfl,k⟩:=h
  refine ⟨_,(aI (aT (nP (aP mL rfl B.isinstance kS (aA (pv 0) (aA (gJ (v:=.ty "int") rfl B.int aDA rfl) aD))) (nO (aAY (aP lZ rfl B.isinstance kS (aA (pv 0) (aA (gJ (v:=.ty "bool") rfl B.bool aBA rfl) aD)))))))),?_⟩
  refine ⟨_,rfl,.int i,.int,rfl,rfl,_,rfl,?_⟩
  refine iT ?_
  exact ⟨_,rfl,.int i,.int,rfl,rfl,_,rfl,k⟩
theorem uI:FnScope ["a", "b", "one", "other"] ["a", "b"] (aF wJ):=⟨rfl,rfl,rfl,by decide +kernel,rfl,by decide +kernel,by decide +kernel⟩
theorem aC7 {f:Addr} {fd:FuncData} (G:Fn K mg "_law_alow" wJ ["a", "b"] f fd):FnOk P w K mg base CX0 1 f fd ["a", "b"] iE:=by
 refine G.fn.ok uI (fun vs H Q E h=>?_) (fun cdv A outer s H vs Q E hr h=>?_)
 ·obtain ⟨a,b,rfl,_⟩:=h
  rfl
 ·obtain ⟨a,b,rfl,hb,hbb,k⟩:=h
  refine ⟨_,(aE (aS (i:=2) uI.nd rfl (Or.inl rfl) (pv 0))
  (aE (aS (i:=3) uI.nd rfl (Or.inl rfl) (pv 1))
  (aE (jP PassesOwn.never (aW oM (pv 3) aH (bJ _))
   (aI (aA0 (i:=2) (j:=3) rfl uI.nd rfl rfl (by decide) rfl rfl (aA (pv 3) (aA (bD kE (pv 2) (pv 3)) aD)) rfl)))
  (aI (aT (eE (aA (bD lE (pv 0) (pv 2)) (aA (bD lE (pv 1) (pv 2)) aD)))))))),?_⟩
  refine ⟨_,rfl,_,rfl,fun m σ H1=>∃ x y:Int,σ = [some (.int a),some (.int b),some (.int x),some (.int y)]/\H1=H/\m=y.toNat/\0<=y/\Int.gcd x y=Int.gcd a b/\(y=0->0 < x),⟨_,a,b,rfl,rfl,rfl,by omega,rfl,by omega⟩,?_⟩
  rintro m σ H1 ⟨x,y,rfl,rfl,rfl,hy,hg,hx⟩
  refine ⟨_,rfl,_,_,rfl,rfl,_,rfl,?_⟩
  refine iM (fun c=>?_) (fun c=>?_)
  ·have hyp:0 < y:=of_decide_eq_true c
   refine ⟨fun σ H2=>∃ u v:Int,σ = [some (.int a),some (.int b),some (.int u),some (.int v)]/\H2=H1/\v.toNat < y.toNat/\0<=v/\Int.gcd u v=Int.gcd a b/\(v=0->0 < u),?_,?_⟩
   ·rintro σ' H' ⟨u,v,rfl,rfl,h1,h2,h3,h4⟩
    exact ⟨_,h1,u,v,rfl,rfl,rfl,h2,h3,h4⟩
   ·refine ⟨_,rfl,_,rfl,_,rfl,_,_,rfl,rfl,hyp,_,_,rfl,?_⟩
    have l1:=Zg x (show y≠0 by omega)
    have l2:=Xs x hyp
    exact ⟨y,x % y,rfl,rfl,by omega,l1,(wS x y).trans hg,fun _=>hyp⟩
  ·have hy0:y=0:=by have:¬ 0 < y:=fun z=>c (decide_eq_true z); omega
   subst hy0
   have hx':=hx rfl
   have e:x=(Int.gcd a b:Int):=by rw [<- hg,Int.gcd_zero]; omega
   have g1:=aFf (by omega) (aBT (a:=a) hb hbb)
   rw [e]
   have g0:=kM (a:=a) hb
   exact ⟨_,rfl,_,rfl,_,_,rfl,rfl,⟨g0,g1⟩,_,rfl,_,rfl,_,_,rfl,rfl,⟨g0,g1⟩,sz2 _ _,fun p hp=>k p hp⟩
def qZ (K:PySem.W.Frag):Sp:=fun vs H Q _=>∃ (p1 p2:Addr) (a b c d:Int),vs = [.ref p1,.ref p2]/\Fra K H p1 a b/\Fra K H p2 c d/\Q (.bl (decide (a*d<=c*b))) H
theorem aAC:FnScope ["one", "other"] ["one", "other"] (aF mW):=⟨rfl,rfl,rfl,by decide +kernel,rfl,by decide +kernel,by decide +kernel⟩
theorem aAD {f:Addr} {fd:FuncData} (G:Fn K mg "_law_ano_more" mW ["one", "other"] f fd):FnOk P w K mg base CX0 1 f fd ["one", "other"] (qZ K):=by
 refine G.fn.ok aAC (fun vs H Q E h=>?_) (fun cdv A outer s H vs Q E hr h=>?_)
 ·obtain ⟨p1,p2,a,b,c,d,rfl,_⟩:=h
  rfl
 ·obtain ⟨p1,p2,a,b,c,d,rfl,⟨s1,b0,b1,a1⟩,⟨s2,d0,d1,c1⟩,k⟩:=h
  refine ⟨_,(aI (aT (jF sH (bD eC (aY bL (pv 0) aH (fun _ _=>rfl)) (aY bL (pv 1) aH (fun _ _=>rfl))) (bD eC (aY bL (pv 1) aH (fun _ _=>rfl)) (aY bL (pv 0) aH (fun _ _=>rfl))) (bJ _)))),?_⟩
  have bn:=wW (aC4 b0 b1)
  have dn:=wW (aC4 d0 d1)
  have an:=wW a1
  have cn:=wW c1
  exact ⟨_,rfl,p1,_,0,_,rfl,rfl,s1,rfl,_,rfl,p2,_,1,_,rfl,rfl,s2,rfl,a,d,rfl,rfl,⟨an,dn⟩,_,rfl,p2,_,0,_,rfl,rfl,s2,rfl,_,rfl,p1,_,1,_,rfl,rfl,s1,rfl,c,b,rfl,rfl,⟨cn,bn⟩,_,_,rfl,rfl,k⟩
def uJ (K:PySem.W.Frag):Sp:=fun vs H Q _=>∃ (p:Addr) (x:Int×Int),vs = [.ref p]/\SqT K H p [.int x.1,.int x.2]/\0<=x.1/\0 < x.2/\Q (.bl true) H
theorem aC8:FnScope ["thing"] ["thing"] (aF tZ):=⟨rfl,rfl,rfl,by decide +kernel,rfl,by decide +kernel,by decide +kernel⟩
theorem aBX {f fA:Addr} {fd dA:FuncData} (G:Fn K mg "_law_afraction" tZ ["thing"] f fd) (B:Bl mg) (GAh:Fn K mg "_law_awhole" mV ["found"] fA dA) (OAh:FnOk P w K mg base CX0 1 fA dA ["found"] nC):FnOk P w K mg base CX0 2 f fd ["thing"] (uJ K):=by
 refine G.fn.ok aC8 (fun vs H Q E h=>?_) (fun cdv A outer s H vs Q E hr h=>?_)
 ·obtain ⟨p,x,rfl,_⟩:=h
  rfl
 ·obtain ⟨p,x,rfl,hp,h0,h1,k⟩:=h
  have r1:Room 1 _:=hr
  refine ⟨_,(aE (cY (PW.pt (iJ (eZ (eD (aP cS rfl B.isinstance kS (aA (pv 0) (aA (gJ (v:=.ty "tuple") rfl B.tuple cX rfl) aD))))) (iJ (aW vB (aP aU rfl B.len gG (aA (pv 0) aD)) aH (bJ _)) (iJ (eZ (eD (bK GAh OAh r1 rfl (aA (aY bL (pv 0) aH (fun _ _=>rfl)) aD)))) (iR (eZ (eD (bK GAh OAh r1 rfl (aA (aY bL (pv 0) aH (fun _ _=>rfl)) aD)))))))))
   (aI (aT eX))
   bO)
  (aI (aT (nP (jF aA3 (aY bL (pv 0) aH (fun _ _=>rfl)) aH (bJ _)) (nO (jF aA3 (aY bL (pv 0) aH (fun _ _=>rfl)) aH (bJ _))))))),?_⟩
  refine ⟨_,rfl,.ref p,.tup,rfl,(fX.mpr ⟨p,rfl,hp⟩:Den K H (eM x) (.ref p)).kd,_,rfl,eF ?_⟩
  refine ⟨_,rfl,p,_,rfl,.inr hp,rfl,_,rfl,eF ?_⟩
  refine ⟨_,rfl,p,_,0,_,rfl,rfl,hp,rfl,x.1,rfl,_,rfl,eF ?_⟩
  refine ⟨_,rfl,p,_,1,_,rfl,rfl,hp,rfl,x.2,rfl,_,rfl,eF ?_⟩
  refine ⟨_,rfl,p,_,0,_,rfl,rfl,hp,rfl,_,_,rfl,rfl,_,rfl,aBV (decide_eq_true h0) ?_⟩
  refine ⟨_,rfl,p,_,1,_,rfl,rfl,hp,rfl,_,_,rfl,rfl,?_⟩
  have e:decide ((1:Int)<=x.2)=true:=decide_eq_true (by omega)
  show Q (.bl (decide ((1:Int)<=x.2))) _
  rw [e]
  exact k
theorem tE {K:PySem.W.Frag} {H:Hp}:∀ {ds:List PyData} {zs:List V},zs.length=ds.length->(∀ (i:Nat) d z,ds[i]?=some d->zs[i]?=some z->Den K H d z)->aO K H ds zs
 | [],[],_,_=>aL.mpr rfl
 | [],_::_,h,_=>by cases h
 | _::_,[],h,_=>by cases h
 | d::ds,z::zs,hl,h=>aJ.mpr ⟨z,zs,rfl,h 0 d z rfl rfl,tE (by simpa using hl) fun i d' z' h1 h2=>h (i+1) d' z' h1 h2⟩
def wX (s:List Int) (g:Int):PyData:=.tuple [bN s,.int g]
theorem rA {K:PySem.W.Frag} {H:Hp} {s:List Int} {g:Int} {v:V} (h:Den K H (wX s g) v):∃ p q,v=.ref p/\SqT K H p [.ref q,.int g]/\SqT K H q (s.map V.int):=by
 obtain ⟨p,xs,rfl,hp,hx⟩:=bV.mp h
 obtain ⟨x1,r1,rfl,d1,hr1⟩:=aJ.mp hx
 obtain ⟨x2,r2,rfl,d2,hr2⟩:=aJ.mp hr1
 rw [aL.mp hr2] at hp
 obtain ⟨q,rfl,hq⟩:=bB.mp d1
 rw [dM.mp d2] at hp
 exact ⟨p,q,rfl,hp,hq⟩
theorem oE {K:PySem.W.Frag} {H:Hp} {s:List Int} {g:Int} {p q:Addr} (h1:SqT K H p [.ref q,.int g]) (h2:SqT K H q (s.map V.int)):Den K H (wX s g) (.ref p) :=
 bV.mpr ⟨p,_,rfl,h1,aJ.mpr ⟨_,_,rfl,bB.mpr ⟨q,rfl,h2⟩,aJ.mpr ⟨_,_,rfl,dM.mpr rfl,aL.mpr rfl⟩⟩⟩
theorem wY (s:List Int) (g:Int):eJ (wX s g)=true:=by
 unfold wX eJ dO
 rw [fO]
 unfold dO eJ dO
 rfl
theorem aDD:bootBuiltins "any" = some (.builtin "any"):=by decide +kernel
theorem nD {X:Cx} {K:PySem.W.Frag} {tg l:Expr} {tl:TE} (hK:X.K=K) (hl:PE X l tl):PI X tg l (aEE K tl):=by subst hK; exact gM hl
theorem aBY {H H':Hp} {a:Addr} {u:HO} (e:aC H H') (h:H a=none):aC H (upd H' a u):=fun b o q=>by
 rw [aG (fun z=>by rw [z,h] at q; cases q)]
 exact e b o q
def oF (ws:List (List Int)) (wt:List Int):Prop:=wt.length=ws.length/\∀ w∈wt,0<=w/\w<=99
theorem aFg {K:PySem.W.Frag} {H:Hp} {p:Addr} {l:List Int} (h:SqT K H p (l.map V.int)):Den K H (.tuple (l.map .int)) (.ref p):=bB.mpr ⟨p,rfl,h⟩
theorem xX {n i:Nat} {b:Bool} {v:V} (h:((List.replicate n b).map V.bl)[i]?=some v):v=.bl b:=by
 rw [Qg] at h
 obtain ⟨c,hc,rfl⟩:=Jb.mp h
 rw [Zu (Qe hc)]
theorem zP (i:Int) (l:List Int):inV (.int i) (l.map V.int)=decide (i∈l):=by
 rw [aCW,Jl,Ju,decide_eq_true_iff]
 exact ⟨fun ⟨y, h1, h2⟩ => by have : y = i := by simpa using h2
                              rw [<- this]; exact h1,fun h=>⟨i,h,by simp⟩⟩
theorem nE (hs:List Int):(cP hs).length=2^hs.length:=by rw [eV,Jh,aAv]
theorem lF (hs:List Int):∀ s∈cP hs,s.length<=hs.length:=fun s h=>by
 rw [eV] at h
 rcases Ql.mp h with rfl | h
 ·exact Jf _
 ·exact oR hs s h
theorem zQ {m n:Nat} (h:m<=n):2^m<=2^n:=Zm (by decide) h
def uK (K:PySem.W.Frag):Sp:=fun vs H Q _=>∃ (x:V) (n:Int) (ws:List (List Int)) (wp:Addr) (wt:List Int),vs = [x,.ref wp]/\Den K H (dZ n ws) x/\dE (dZ n ws)=true/\SqT K H wp (wt.map V.int)/\oF ws wt/\∀ H',aC H H'->Q (.bl true) H'
theorem aC9:FnScope ["book", "thing"] ["book", "thing"] (aF qH):=⟨rfl,rfl,rfl,by decide +kernel,rfl,by decide +kernel,by decide +kernel⟩
theorem aBZ {f:Addr} {fd:FuncData} (G:Fn K mg "are_weights" qH ["book", "thing"] f fd) (B:Bl mg) (R:Pr K mg fW fH fK fB fNB dW dH dK dB dNB):FnOk P w K mg base CX0 5 f fd ["book", "thing"] (uK K):=by
 have OW:FnOk P w K mg base CX0 1 fW dW ["thing"] (pB K):=qL R.W B
 have ONB:FnOk P w K mg base CX0 4 fNB dNB ["book"] (zJ K):=aBI B R
 obtain ⟨tmw,hmw⟩:=B.mw
 refine G.fn.ok aC9 (fun vs H Q E h=>?_) (fun cdv A outer s H vs Q E hr h=>?_)
 ·obtain ⟨x,n,ws,wp,wt,rfl,_⟩:=h
  rfl
 ·obtain ⟨x,n,ws,wp,wt,rfl,hx,hbk,hw,hwt,k⟩:=h
  have r1:Room 1 _:=hr.mono (by decide)
  have r4:Room 4 _:=hr
  refine ⟨_,(aE (kC (bK R.NB ONB r4 rfl (aA (pv 0) aD)))
  (aE (cY (PW.pt (iJ (eZ (eD (aP cS rfl B.isinstance kS (aA (pv 1) (aA (gJ (v:=.ty "tuple") rfl B.tuple cX rfl) aD))))) (iR (aW vB (aP aU rfl B.len gG (aA (pv 1) aD)) (aP aU rfl B.len gG (aA (aY bL (pv 0) aH (fun _ _=>rfl)) aD)) (bJ _)))))
   (aI (aT eX))
   bO)
  (aI (aT (aP (pQ rfl) rfl B.all aBB (aA (bR (own:=["weight"]) (fr:=[]) (frn:=[]) (aR (aF qH) ["book", "thing"] rfl rfl (by decide +kernel)) rfl (gM (pv 1))
    (fun _ _ _ _=>(aM (i:=0) (show (["weight"]:List Str).Nodup by decide +kernel) rfl (Or.inl rfl))) (fun _ _ _ _=>cI)
    (fun _ _ _ _=>(nP (bK R.W OW r1 rfl (aA (pv 0) aD)) (nO (vC sH sH aH (pv 0) (lH (v:=.int 99) rfl hmw ⟨tmw,rfl⟩)))))) aD)))))),?_⟩
  refine ⟨_,rfl,x,_,rfl,hx,hbk,fun H1 s1=>?_⟩
  have hw1:=s1.seqT hw
  obtain ⟨c,b,ys,e,hc,hb1,hys1⟩:=iZ (s1.den _ _ hx)
  cases e
  have hly:=aK hys1
  rw [Qa] at hly
  obtain ⟨_,_,h12,_⟩:=cO hbk
  refine ⟨_,rfl,.ref wp,.tup,rfl,(aFg hw1).kd,_,rfl,?_⟩
  refine eF ?_
  refine ⟨_,rfl,wp,_,rfl,.inr hw1,_,rfl,c,_,1,.ref b,rfl,rfl,hc,rfl,b,ys,rfl,.inr hb1,rfl,_,rfl,?_⟩
  refine aBU (by rw [Qa,hwt.1,hly]; exact zO _) ?_
  refine ⟨_,rfl,wp,rfl,⟨_,hw1⟩,gO (K:=K) (a:=wp) (xs:=wt.map V.int) (vs:=(List.replicate wt.length true).map V.bl) (fun σ=>∃ v,σ = [v]) (by rw [Qa,hwt.1]; omega) (by simp) hw1 ⟨none,rfl⟩ ?_ ?_⟩
  ·rintro i u v σ H2 hu hv ⟨v0,rfl⟩ s2 Q' k'
   rw [xX hv] at k'
   obtain ⟨z,hz,rfl⟩:=Qx.mp (Qe hu)
   have:=hwt.2 z hz
   refine ⟨_,rfl,.int z,.int z,rfl,dM.mpr rfl,_,rfl,iT ?_⟩
   refine ⟨_,rfl,_,_,rfl,rfl,_,rfl,aBV (decide_eq_true this.1) ⟨_,_,rfl,rfl,?_⟩⟩
   show Q' (.bl (decide (z<=99))) _ _
   rw [decide_eq_true this.2]
   exact k' _ _ ⟨_,rfl⟩ (aC.refl _)
  ·intro H3 s3 p hp
   refine ⟨p,List.replicate wt.length true,rfl,SqL.of aB,?_⟩
   rw [show (List.replicate wt.length true).all id=true by simp]
   exact k _ (s1.trans (s3.trans (aC.new hp)))
def rB (K:PySem.W.Frag):Sp:=fun vs H Q _=>∃ (x:V) (n:Int) (ws:List (List Int)) (wp:Addr) (wt:List Int),vs = [x,.ref wp]/\Den K H (dZ n ws) x/\dE (dZ n ws)=true/\SqT K H wp (wt.map V.int)/\oF ws wt/\∀ H',aC H H'->Q .non H'
theorem aB0:FnScope ["book", "weights"] ["book", "weights"] (aF pA):=⟨rfl,rfl,rfl,by decide +kernel,rfl,by decide +kernel,by decide +kernel⟩
theorem aAE {f fA:Addr} {fd dA:FuncData} (G:Fn K mg "need_weights" pA ["book", "weights"] f fd) (GAW:Fn K mg "are_weights" qH ["book", "thing"] fA dA) (OAW:FnOk P w K mg base CX0 5 fA dA ["book", "thing"] (uK K)):FnOk P w K mg base CX0 6 f fd ["book", "weights"] (rB K):=by
 refine G.fn.ok aB0 (fun vs H Q E h=>?_) (fun cdv A outer s H vs Q E hr h=>?_)
 ·obtain ⟨x,n,ws,wp,wt,rfl,_⟩:=h
  rfl
 ·obtain ⟨x,n,ws,wp,wt,rfl,hx,hbk,hw,hwt,k⟩:=h
  have r5:Room 5 _:=hr
  refine ⟨_,(aI (cY (eZ (eD (bK GAW OAW r5 rfl (aA (pv 0) (aA (pv 1) aD)))))
   sD
   bO)),?_⟩
  exact ⟨_,rfl,_,rfl,x,n,ws,wp,wt,rfl,hx,hbk,hw,hwt,fun H1 s1=>⟨_,rfl,eF (k _ s1)⟩⟩
def nF (K:PySem.W.Frag):Sp:=fun vs H Q _=>∃ (p q:Addr) (l s:List Int),vs = [.ref p,.ref q]/\SqT K H p (l.map V.int)/\SqT K H q (s.map V.int)/\l.length<=1000/\∀ H',aC H H'->Q (.bl (kL s l)) H'
theorem aB1:FnScope ["able", "some"] ["able", "some"] (aF lL):=⟨rfl,rfl,rfl,by decide +kernel,rfl,by decide +kernel,by decide +kernel⟩
theorem aAF {f:Addr} {fd:FuncData} (G:Fn K mg "is_within" lL ["able", "some"] f fd) (B:Bl mg):FnOk P w K mg base CX0 1 f fd ["able", "some"] (nF K):=by
 refine G.fn.ok aB1 (fun vs H Q E h=>?_) (fun cdv A outer s H vs Q E hr h=>?_)
 ·obtain ⟨p,q,l,s,rfl,_⟩:=h
  rfl
 ·obtain ⟨p,q,l,s',rfl,hp,hq,hl,k⟩:=h
  refine ⟨_,(aI (aT (aP (pQ rfl) rfl B.all aBB (aA (bR (own:=["hand"]) (fr:=[1]) (frn:=["some"]) (aR (aF lL) ["able", "some"] rfl rfl (by decide +kernel)) rfl (gM (pv 0))
    (fun _ _ _ _=>(aM (i:=0) (show (["hand", "some"]:List Str).Nodup by decide +kernel) rfl (Or.inl rfl))) (fun _ _ _ _=>cI)
    (fun _ _ _ _=>(jF (xR (K:=K) rfl) (pv 0) (pv 1) (by with_unfolding_all rfl)))) aD)))),?_⟩
  refine ⟨_,rfl,p,rfl,⟨_,hp⟩,gO (K:=K) (a:=p) (xs:=l.map V.int) (vs:=(l.map fun h=>decide (h∈s')).map V.bl) (fun σ=>∃ v,σ = [v,some (.ref q)]) (by rw [Qa]; exact hl) (by simp) hp ⟨none,rfl⟩ ?_ ?_⟩
  ·rintro i u v σ H2 hu hv ⟨v0,rfl⟩ s2 Q' k'
   rw [Qg] at hu hv
   obtain ⟨z,hz,rfl⟩:=Jb.mp hu
   rw [Qg,hz] at hv
   cases hv
   refine ⟨_,rfl,_,rfl,q,s'.map V.int,rfl,.inr (s2.seqT hq),rfl,jV _,?_⟩
   have e:inV (.int z) (s'.map V.int)=decide (z∈s'):=zP z s'
   show Q' (.bl (inV (.int z) (s'.map V.int))) _ _
   rw [e]
   exact k' _ _ ⟨_,rfl⟩ (aC.refl _)
  ·intro H3 s3 p2 hp2
   refine ⟨p2,_,rfl,SqL.of aB,?_⟩
   rw [show (l.map fun h=>decide (h∈s')).all id=kL s' l by unfold kL; rw [Wh]; rfl]
   exact k _ (s3.trans (aC.new hp2))
def xY (K:PySem.W.Frag):Sp:=fun vs H Q _=>∃ (l:Addr) (hs:List Int),vs = [.ref l]/\SqL K H l (hs.map V.int)/\hs.length<=6/\∀ p xs H',aC H H'->H p=none->H' p=some (.lst xs)->aO K H' ((gZ hs).map bN) xs->Q (.ref p) H'
theorem uL:FnScope ["hands", "sets", "hand"] ["hands"] (aF wI):=⟨rfl,rfl,rfl,by decide +kernel,rfl,by decide +kernel,by decide +kernel⟩
theorem aDa {f:Addr} {fd:FuncData} (G:Fn K mg "sets_of" wI ["hands"] f fd) (B:Bl mg):FnOk P w K mg base CX0 1 f fd ["hands"] (xY K):=by
 refine G.fn.ok uL (fun vs H Q E h=>?_) (fun cdv A outer s H vs Q E hr h=>?_)
 ·obtain ⟨l,hs,rfl,_⟩:=h
  rfl
 ·obtain ⟨l,hs,rfl,hl,h6,k⟩:=h
  refine ⟨_,(aE (aS (i:=1) uL.nd rfl (Or.inl rfl) (fG (aA (eE aD) aD)))
  (aE (fE PassesOwn.never rfl (cG (pv 0)) (aM (i:=2) uL.nd rfl (Or.inr rfl))
   (aI (aS (i:=1) uL.nd rfl (Or.inl rfl) (bD pO (pv 1) (bR (own:=["some"]) (fr:=[2]) (frn:=["hand"]) (aR (aF wI) ["hands", "sets", "hand"] rfl rfl (by decide +kernel)) rfl (cG (pv 1))
    (fun _ _ _ _=>(aM (i:=0) (show (["some", "hand"]:List Str).Nodup by decide +kernel) rfl (Or.inl rfl))) (fun _ _ _ _=>cI)
    (fun _ _ _ _=>(bD (vR (K:=K) rfl) (pv 0) (eE (aA (pv 1) aD)))))))))
  (aI (aT (vF yR (pv 1) (yO aH) yN))))),?_⟩
  refine ⟨bP (Jf _),fun p0 h0=>⟨sz1 _,fun p1 h1=>?_⟩⟩
  have s1:=(aC.new (o:=.tup []) h0).trans (aC.new (o:=.lst [.ref p0]) h1)
  have n1:H p1=none:=(aC.new (o:=.tup []) h0).free h1
  have e1:upd (upd H p0 (.tup [])) p1 (.lst [.ref p0]) p1=some (.lst [.ref p0]):=aB
  have d1:aO K (upd (upd H p0 (.tup [])) p1 (.lst [.ref p0])) ((cP (hs.take 0)).map bN) [.ref p0]:=aJ.mpr ⟨_,_,rfl,bB.mpr ⟨p0,rfl,(aC.new h1).seqT (SqT.of aB)⟩,aL.mpr rfl⟩
  generalize upd (upd H p0 (.tup [])) p1 (.lst [.ref p0])=H1 at s1 e1 d1 ⊢
  refine ⟨_,rfl,l,rfl,⟨_,s1.seqL hl⟩,iS (K:=K) (a:=l) (xs:=hs.map V.int) (fun i σ H2=>∃ q xs v,σ = [some (.ref l),some (.ref q),v]/\aC H H2/\H q=none/\H2 q=some (.lst xs)/\aO K H2 ((cP (hs.take i)).map bN) xs) ⟨p1,_,none,rfl,s1,n1,e1,d1⟩ (fun i σ H2 _ ⟨_,_,_,_,s2,_⟩=>s2.seqL hl) ?_ ?_⟩
  ·rintro i y σ H2 hy ⟨q,xs,v,rfl,s2,nq,hq,hd⟩
   rw [Qg] at hy
   obtain ⟨h,hh,rfl⟩:=Jb.mp hy
   have hi:i < hs.length:=(Qd.mp hh).1
   have hxl:xs.length=2^i:=by
    rw [aK hd,Qa,nE,Jd,Nat.min_eq_left (by omega)]
   have hx32:xs.length<=32:=by rw [hxl]; exact zQ (n:=5) (by omega)
   refine ⟨_,rfl,_,rfl,q,rfl,⟨_,SqL.of hq⟩,eU (K:=K) (a:=q) (xs:=xs) (fun σ=>∃ v,σ = [v,some (.int h)]) (fun j ys H3=>aC H2 H3/\aO K H3 (((cP (hs.take i)).take j).map fun t=>bN (t++[h])) ys) (bP (by omega)) ⟨none,rfl⟩ ⟨aC.refl _,aL.mpr rfl⟩ ?_ (fun j ys H3 ⟨s3,_⟩=>s3.seqL (SqL.of hq)) ?_ ?_⟩
   ·rintro j ys H3 ⟨_,hd3⟩
    rw [aK hd3,Qa,Jd]
    exact Jt _ _
   ·rintro j ys σ x H3 hx ⟨v0,rfl⟩ ⟨s3,hd3⟩ hz
    obtain ⟨d,hd1,hd2⟩:=jS (s3.denAll _ _ hd) hx
    rw [Qg] at hd1
    obtain ⟨t,ht,rfl⟩:=Jb.mp hd1
    obtain ⟨a,rfl,ha⟩:=bB.mp hd2
    have ht5:t.length<=i:=by
     have:=lF _ t (Qe ht)
     rw [Jd] at this
     omega
    refine ⟨_,rfl,_,rfl,sz1 _,fun pt hpt=>⟨a,pt,_,_,rfl,rfl,(aC.new hpt).seqT ha,SqT.of aB,bP (by rw [Qa]; show _+1<=_; omega),fun pc H4 s4 hpc=>?_⟩⟩
    have s34:=(aC.new (o:=.tup [.int h]) hpt).trans s4
    refine ⟨hz,⟨_,rfl⟩,s3.trans s34,?_⟩
    rw [Ya,ht,Qp]
    refine bC (s34.denAll _ _ hd3) (aJ.mpr ⟨_,_,rfl,bB.mpr ⟨pc,rfl,?_⟩,aL.mpr rfl⟩)
    rw [Qp]
    exact hpc
   ·rintro ys H3 ⟨s3,hd3⟩ pn hpn
    have hyl:ys.length<=32:=by
     rw [aK hd3,Qa,Jd]
     omega
    refine ⟨q,pn,xs,ys,rfl,rfl,(s3.trans (aC.new hpn)) _ _ hq,aB,bP (by omega),fun pr hpr=>?_⟩
    have s35:=s3.trans ((aC.new (o:=.lst ys) hpn).trans (aC.new (o:=.lst (xs++ys)) hpr))
    refine ⟨pr,xs++ys,_,rfl,s2.trans s35,(s2.trans (s3.trans (aC.new hpn))).free hpr,aB,?_⟩
    rw [Ya,hh,show (some h).toList = [h] from rfl,hV,Qp,Xl]
    refine bC (s35.denAll _ _ hd) ?_
    have e:xs.length=(cP (hs.take i)).length:=by rw [aK hd,Qa]
    rw [e,Jk] at hd3
    exact ((aC.new hpn).trans (aC.new hpr)).denAll _ _ hd3
  ·rintro σ H2 ⟨q,xs,v,rfl,s2,nq,hq,hd⟩
   refine ⟨_,rfl,_,rfl,q,xs,rfl,SqL.of hq,fun pr hpr=>?_⟩
   have e:vG xs (some 1) none=xs.drop 1:=sR xs 1
   rw [e]
   rw [Qa,Jk,eV,Jc] at hd
   obtain ⟨x,r,rfl,_,hr2⟩:=aJ.mp hd
   exact k pr _ _ (s2.trans (aC.new hpr)) (s2.free hpr) aB ((aC.new hpr).denAll _ _ hr2)
def aDE (K:PySem.W.Frag):Sp:=fun vs H Q _=>∃ (t a:Addr) (ns:List Int) (m:Nat),vs = [.ref t,.int m]/\iC K H t a ns/\m<=12/\∀ (wt:List Int) p H',wt.length=m->(∀ w∈wt,0<=w/\w<=99)->But t H H'->iC K H' t a ns->SqT K H' p (wt.map V.int)->Q (.ref p) H'
theorem aDF:FnScope ["tape", "many", "way"] ["tape", "many"] (aF aBD):=⟨rfl,rfl,rfl,by decide +kernel,rfl,by decide +kernel,by decide +kernel⟩
theorem aEm {f fD:Addr} {fd dD:FuncData} (G:Fn K mg "_law_aweights" aBD ["tape", "many"] f fd) (B:Bl mg) (GD:Fn K mg "_law_adigit" lM ["tape", "many"] fD dD) (OD:FnOk P w K mg base CX0 1 fD dD ["tape", "many"] (mX K)):FnOk P w K mg base CX0 2 f fd ["tape", "many"] (aDE K):=by
 refine G.fn.ok aDF (fun vs H Q E h=>?_) (fun cdv A outer s H vs Q E hr h=>?_)
 ·obtain ⟨t,a,ns,m,rfl,_⟩:=h
  rfl
 ·obtain ⟨t,a,ns,m,rfl,hT,hm,k⟩:=h
  have r1:Room 1 _:=hr
  refine ⟨_,(aE (aS (i:=2) aDF.nd rfl (Or.inr rfl) (bK GD OD r1 rfl (aA (pv 0) (aA aH aD))))
  (aE (cY (aW pK (pv 2) aH (bJ _))
   (aI (aT (bD (aCP (K:=K) rfl) (eE (aA aH aD)) (pv 1))))
   bO)
  (aI (aT (bZ cR rfl B.tuple cX (aA (bR (own:=["k"]) (fr:=[0,2]) (frn:=["tape", "way"]) (aR (aF aBD) ["tape", "many", "way"] rfl rfl (by decide +kernel)) rfl (gN rfl B.range (aA (pv 1) aD))
    (fun _ _ _ _=>(aM (i:=0) (show (["k", "tape", "way"]:List Str).Nodup by decide +kernel) rfl (Or.inl rfl))) (fun _ _ _ _=>cI)
    (fun _ _ _ _=>(bK GD OD r1 rfl (aA (pv 1) (aA (aY (pW (K:=K) rfl) (fG (aA aH (aA aH (aA aH aD)))) (bD xJ (pv 2) aH) (fun _ _=>rfl)) aD))))) aD)))))),?_⟩
  refine ⟨_,rfl,t,a,ns,4,rfl,hT,by decide,by decide,fun wy H1 hw0 hw1 b1 T1=>?_⟩
  dsimp only [dY]
  refine ⟨_,rfl,rfl,_,rfl,?_⟩
  refine iM (fun c0=>?_) (fun c0=>?_)
  ·refine ⟨sz1 _,fun p0 h0=>⟨_,rfl,p0,m,_,rfl,rfl,SqT.of aB,by omega,by show 1<=1000; decide,fun q H2 s2 hq=>?_⟩⟩
   have s3:=(aC.new (o:=.tup [.int 1]) h0).trans s2
   refine k (List.replicate m 1) q H2 (by simp) (fun w hw=>by rw [Zu hw]; decide) (b1.trans (But.of s3)) (T1.same s3) ?_
   have e:∀ m:Nat,(List.replicate m [V.int 1]).flatten=(List.replicate m (1:Int)).map V.int:=fun m=>by
    induction m with
    | zero=>rfl
    | succ m ih=>rw [Xk,Zj,ih,Xk]; rfl
   rw [<- e m]
   exact hq
  ·have hw3:1<=wy:=by
    by_cases z:wy=0
    ·exact absurd (by rw [z]; rfl) c0
    ·omega
   refine ⟨_,rfl,m,rfl,by omega,by omega,iV (lo:=0) (n:=((m:Int)).toNat) (fun σ=>∃ v,σ = [v,some (.ref t),some (.int wy)]) (fun i ys H2=>∃ l:List Int,ys=l.map V.int/\l.length=i/\(∀ w∈l,0<=w/\w<=99)/\But t H1 H2/\iC K H2 t a ns) (bP (by omega)) ⟨none,rfl⟩ ⟨[],rfl,rfl,fun _ h=>(Ja h).elim,But.refl _ _,T1⟩ ?_ ?_ ?_⟩
   ·rintro i ys H2 ⟨l,rfl,hl,_⟩
    rw [Qa,hl]; exact Qh _
   ·rintro i ys σ H2 hi ⟨v,rfl⟩ ⟨l,rfl,hl,hl2,b2,T2⟩ hz
    refine ⟨_,rfl,bP (show 3<=1000 by decide),fun lp hlp=>?_⟩
    obtain ⟨M,hM,hM0,hM1⟩:∃ M:Int,atI [V.int 3,V.int 10,V.int 100] (wy - 1)=some (.int M)/\0 < M/\M<=100:=by
     have:wy=1∨wy=2∨wy=3:=by omega
     rcases this with rfl | rfl | rfl
     ·exact ⟨3,rfl,by decide,by decide⟩
     ·exact ⟨10,rfl,by decide,by decide⟩
     ·exact ⟨100,rfl,by decide,by decide⟩
    have s3:=aC.new (o:=.lst [V.int 3,V.int 10,V.int 100]) hlp
    refine ⟨_,rfl,_,_,rfl,rfl,lp,_,_,_,rfl,rfl,SqL.of aB,hM,t,a,ns,M,rfl,T2.same s3,hM0,by omega,fun r H4 hr0 hr1 b4 T4=>?_⟩
    refine ⟨hz,⟨_,rfl⟩,l++[r],by simp,by simp [hl],fun w hw=>?_,b2.trans ((But.of s3).trans b4),T4⟩
    rcases Jm.mp hw with hw | hw
    ·exact hl2 w hw
    ·rw [Qs.mp hw]; omega
   ·rintro ys H2 ⟨l,rfl,hl,hl2,b2,T2⟩ lp hlp
    refine ⟨lp,_,rfl,.inl ⟨SqL.of aB,fun q hq=>?_⟩⟩
    have s3:=(aC.new (o:=.lst (l.map V.int)) hlp).trans (aC.new (o:=.tup (l.map V.int)) hq)
    exact k l q _ (by omega) hl2 (b1.trans (b2.trans (But.of s3))) (T2.same s3) (SqT.of aB)
def pD (r:List Int×Int):PyData:=wX r.1 r.2
theorem aB2 (rows:bA) (s:List Int):wIn rows (inS s)=aN ((rows.filter fun r=>kL s r.1).map (·.2)):=uE _ (fun r:List Int×Int=>r.1.all (inS s)) rows
def RwS (rows:bA):Prop:=∀ r∈rows,r.1.length<=6/\0<=r.2/\r.2<=99
theorem rC {rows:bA} (h:RwS rows) (p:Int->Bool):0<=wIn rows p/\wIn rows p<=rows.length*99:=by
 refine ⟨mY fun r hr=>?_,?_⟩
 ·have:=h r hr
  by_cases c:r.1.all p=true
  ·rw [if_pos c]; omega
  ·rw [if_neg c]; exact Xf _
 ·rw [<- lS (f:=fun _:List Int×Int=>(99:Int)) (l:=rows) fun _ _=>rfl]
  refine jW fun r hr=>?_
  have:=h r hr
  by_cases c:r.1.all p=true
  ·rw [if_pos c]; omega
  ·rw [if_neg c]; omega
theorem dU {i:Int} (h:i.natAbs<=1000000):i.natAbs < 2^4000:=Qi (Zd h (show 1000000 < 2^20 by decide)) (Zm (by decide) (by decide))
def xZ (K:PySem.W.Frag):Sp:=fun vs H Q _=>∃ (lp rp:Addr) (hs:List Int) (zs:List V) (rows:bA),vs = [.ref lp,.ref rp]/\SqL K H lp (hs.map V.int)/\SqL K H rp zs/\aO K H (rows.map pD) zs/\hs.length<=6/\rows.length<=12/\RwS rows /\
 ∀ p q b m H',aC H H'->SqT K H' p [.ref q,.int m]->SqT K H' q (b.map V.int)->mH rows (gZ hs) b m->Q (.ref p) H'
theorem fY:FnScope ["hands", "rows", "best", "most", "some", "weight", "more"] ["hands", "rows"] (aF jU):=⟨rfl,rfl,rfl,by decide +kernel,rfl,by decide +kernel,by decide +kernel⟩
theorem aDb {f fS fI:Addr} {fd dS dI:FuncData} (G:Fn K mg "heaviest" jU ["hands", "rows"] f fd) (B:Bl mg) (GSt:Fn K mg "sets_of" wI ["hands"] fS dS) (OSt:FnOk P w K mg base CX0 1 fS dS ["hands"] (xY K)) (GWi:Fn K mg "is_within" lL ["able", "some"] fI dI) (OWi:FnOk P w K mg base CX0 1 fI dI ["able", "some"] (nF K)):FnOk P w K mg base CX0 2 f fd ["hands", "rows"] (xZ K):=by
 refine G.fn.ok fY (fun vs H Q E h=>?_) (fun cdv A outer s H vs Q E hr h=>?_)
 ·obtain ⟨lp,rp,hs,zs,rows,rfl,_⟩:=h
  rfl
 ·obtain ⟨lp,rp,hs,zs,rows,rfl,hlp,hrp,hd,h6,h12,hrw,k⟩:=h
  have r1:Room 1 _:=hr
  refine ⟨_,(aE (aS (i:=2) fY.nd rfl (Or.inl rfl) (eE aD))
  (aE (aS (i:=3) fY.nd rfl (Or.inl rfl) aH)
  (aE (fE PassesOwn.never rfl (cG (bK GSt OSt r1 rfl (aA (pv 0) aD))) (aM (i:=4) fY.nd rfl (Or.inr rfl))
   (aE (aS (i:=5) fY.nd rfl (Or.inl rfl) (aP (aBc rfl) rfl B.sum aFb (aA (bR (own:=["able", "heft"]) (fr:=[4]) (frn:=["some"]) (aR (aF jU) ["hands", "rows", "best", "most", "some", "weight", "more"] rfl rfl (by decide +kernel)) rfl (cG (pv 1))
    (fun _ _ _ _=>(jJ (K:=K) (n:=2) rfl rfl (aV (aM (i:=0) (show (["able", "heft", "some"]:List Str).Nodup by decide +kernel) rfl (Or.inl rfl)) (aV (aM (i:=1) (show (["able", "heft", "some"]:List Str).Nodup by decide +kernel) rfl (Or.inl rfl)) eA)))) (fun _ _ _ _=>jN (eD (bK GWi OWi r1 rfl (aA (pv 0) (aA (pv 2) aD)))))
    (fun _ _ _ _=>(pv 1))) aD)))
  (aE (aS (i:=6) fY.nd rfl (Or.inl rfl) (bD xJ (bD eC (pv 5) (aP aU rfl B.len gG (aA (pv 2) aD))) (bD eC (pv 3) (aP aU rfl B.len gG (aA (pv 4) aD)))))
  (aI (cY (PW.pt (iJ (aW oM (pv 6) aH (bJ _)) (iR (PW.pt (xG (aW pK (pv 6) aH (bJ _)) (tI (aW oM (aP aU rfl B.len gG (aA (pv 4) aD)) (aP aU rfl B.len gG (aA (pv 2) aD)) (bJ _))))))))
   (aE (aS (i:=2) fY.nd rfl (Or.inl rfl) (pv 4))
  (aI (aS (i:=3) fY.nd rfl (Or.inl rfl) (pv 5))))
   bO)))))
  (aI (aT (eE (aA (pv 2) (aA (pv 3) aD)))))))),?_⟩
  have hzl:=aK hd
  rw [Qa] at hzl
  refine ⟨bP (Jf _),fun p0 h0=>?_⟩
  have s1:=aC.new (o:=.tup []) h0
  have e1:SqT K (upd H p0 (.tup [])) p0 (([]:List Int).map V.int):=SqT.of aB
  generalize upd H p0 (.tup [])=H1 at s1 e1 ⊢
  refine ⟨_,rfl,lp,hs,rfl,s1.seqL hlp,h6,fun sp xs H2 s2 nsp hsp hxs=>?_⟩
  have s12:=s1.trans s2
  refine ⟨sp,rfl,⟨_,SqL.of hsp⟩,iS (K:=K) (a:=sp) (xs:=xs) (fun i σ H3=>∃ b q m v4 v5 v6,σ = [some (.ref lp),some (.ref rp),some (.ref q),some (.int m),v4,v5,v6]/\aC H2 H3/\SqT K H3 q (b.map V.int)/\mH rows ((gZ hs).take i) b m/\b.length<=6/\0<=m/\m<=10000) ⟨[],p0,0,none,none,none,rfl,aC.refl _,s2.seqT e1,.inl ⟨rfl,rfl,rfl⟩,by simp,by decide,by decide⟩ (fun i σ H3 _ ⟨_,_,_,_,_,_,_,s3,_⟩=>s3.seqL (SqL.of hsp)) ?_ ?_⟩
  ·rintro i x σ H3 hx ⟨b,q,m,v4,v5,v6,rfl,s3,hq,hb,hb6,hm0,hm1⟩
   obtain ⟨t,ht,htd⟩:=bM hxs hx
   obtain ⟨a,rfl,ha⟩:=bB.mp htd
   have ha3:=s3.seqT ha
   have htm:t∈gZ hs:=Qe ht
   have ht6:t.length<=6:=Qt (oR hs t htm) h6
   have s13:=s12.trans s3
   have hW:=rC hrw (inS t)
   refine ⟨_,rfl,rp,rfl,⟨_,s13.seqL hrp⟩,eU (K:=K) (a:=rp) (xs:=zs) (fun σ=>∃ v w,σ = [v,w,some (.ref a)]) (fun j ys H4=>aC H3 H4/\ys=(((rows.take j).filter fun r=>kL t r.1).map (·.2)).map V.int) (bP (by omega)) ⟨none,none,rfl⟩ ⟨aC.refl _,rfl⟩ ?_ (fun j ys H4 ⟨s4,_⟩=>(s13.trans s4).seqL hrp) ?_ ?_⟩
   ·rintro j ys H4 ⟨_,rfl⟩
    rw [Qa,Qa]
    exact Qt (Je _ _) (by rw [Jd]; exact Jt _ _)
   ·rintro j ys σ y H4 hy ⟨v,w,rfl⟩ ⟨s4,rfl⟩ hz
    obtain ⟨r,hr,hrd⟩:=bM hd hy
    obtain ⟨pp,pq,rfl,hpp,hpq⟩:=rA hrd
    have s14:=s13.trans s4
    obtain ⟨r6,r0,r99⟩:=hrw r (Qe hr)
    refine ⟨pp,_,rfl,s14.seqT hpp,rfl,_,_,rfl,_,_,rfl,rfl,?_⟩
    refine ⟨_,rfl,_,rfl,pq,a,r.1,t,rfl,s14.seqT hpq,s4.seqT ha3,by omega,fun H5 s5=>⟨_,rfl,?_⟩⟩
    rw [bQ hr,Xj,Qp,Qp]
    cases hw:kL t r.1 with
    | true =>
     refine iT ?_
     refine ⟨_,rfl,hz,⟨_,_,rfl⟩,s4.trans s5,?_⟩
     rw [Qw,hw]; rfl
    | false =>
     refine eF ?_
     refine ⟨⟨_,_,rfl⟩,s4.trans s5,?_⟩
     rw [Qw,hw]
     show _=_++[]
     rw [Jw]
   ·rintro ys H4 ⟨s4,rfl⟩ pn hpn
    rw [hzl,Jk]
    have s5:=aC.new (o:=.lst (((rows.filter fun r=>kL t r.1).map (·.2)).map V.int)) hpn
    refine ⟨pn,_,rfl,SqL.of aB,fun x hx=>?_,?_,?_⟩
    ·obtain ⟨r,hr,rfl⟩:=Qx.mp hx
     have:=hrw r (Qr.mp hr).1
     omega
    ·rw [Qa]; exact Qt (Je _ _) (by omega)
    ·rw [<- aB2]
     have s35:=s4.trans s5
     generalize upd H4 pn _=H5 at s35 ⊢
     dsimp only [dY]
     refine ⟨_,rfl,_,rfl,q,_,rfl,.inr (s35.seqT hq),_,_,rfl,rfl,⟨dU (by omega),dU (by rw [Qa]; omega)⟩,_,rfl,_,rfl,a,_,rfl,.inr (s35.seqT ha3),_,_,rfl,rfl,⟨dU (by omega),dU (by rw [Qa]; omega)⟩,_,_,rfl,rfl,?_⟩
     rw [Qa,Qa]
     obtain ⟨c1,c2⟩:=aAw (s:=t) (fun u hu=>qW hs u (Wn hu)) (qW hs t htm) hb
     rw [<- bQ ht] at c1 c2
     dsimp only [dY]
     have stay:¬ (0 < wIn rows (inS t)*b.length - m*t.length∨wIn rows (inS t)*b.length - m*t.length=0/\(b.length:Int) < t.length)->∀ x4 x5 x6,∃ b' q' m' v4 v5 v6,([some (.ref lp),some (.ref rp),some (.ref q),some (.int m),x4,x5,x6]:St) = [some (.ref lp),some (.ref rp),some (.ref q'),some (.int m'),v4,v5,v6]/\aC H2 H5/\SqT K H5 q' (b'.map V.int)/\mH rows ((gZ hs).take (i+1)) b' m'/\b'.length<=6/\0<=m'/\m'<=10000:=fun c _ _ _=>⟨b,q,m,_,_,_,rfl,s3.trans s35,s35.seqT hq,c2 c,hb6,hm0,hm1⟩
     refine ⟨_,rfl,_,_,rfl,rfl,_,rfl,?_⟩
     refine iM (fun d=>?_) (fun d=>?_)
     ·exact ⟨_,rfl,_,rfl,t,a,_,_,_,_,rfl,s3.trans s35,s35.seqT ha3,c1 (.inl (of_decide_eq_true d)),ht6,hW.1,by omega⟩
     ·have n1:¬ 0 < wIn rows (inS t)*b.length - m*t.length:=fun z=>d (decide_eq_true z)
      refine ⟨_,rfl,rfl,_,rfl,?_⟩
      refine iM (fun d2=>?_) (fun d2=>?_)
      ·have e2:wIn rows (inS t)*b.length - m*t.length=0:=by simpa using d2
       refine ⟨_,rfl,a,_,rfl,.inr (s35.seqT ha3),_,rfl,q,_,rfl,.inr (s35.seqT hq),_,_,rfl,rfl,_,rfl,?_⟩
       rw [Qa,Qa]
       refine iM (fun d3=>?_) (fun d3=>?_)
       ·exact ⟨_,rfl,_,rfl,t,a,_,_,_,_,rfl,s3.trans s35,s35.seqT ha3,c1 (.inr ⟨e2,of_decide_eq_true d3⟩),ht6,hW.1,by omega⟩
       ·exact stay (fun z=>z.elim n1 fun z=>d3 (decide_eq_true z.2)) _ _ _
      ·exact stay (fun z=>z.elim n1 fun z=>d2 (by rw [z.1]; rfl)) _ _ _
  ·rintro σ H3 ⟨b,q,m,v4,v5,v6,rfl,s3,hq,hb,_⟩
   have hl:=aK hxs
   rw [Qa] at hl
   rw [hl,Jk] at hb
   exact ⟨_,rfl,_,rfl,bP (show 2<=1000 by decide),fun p hp=>k p q b m _ (s12.trans (s3.trans (aC.new hp))) (SqT.of aB) ((aC.new hp).seqT hq) hb⟩
end
def aDc:Scope:=match (gK gQ).getD 4 (.Pass ⟨0,0,0,0⟩) with
 | .While _ [_,_,_,_,.Assign _ (.ListComp _ _ sc _) _] _ _=>sc
 | _=>{ kind:=.function,names:=[],isGenerator:=false,isCoroutine:=false }
def fZ (b:List Int×Int):PyData:=.tuple [bN b.1,eM (bU (b.2,(b.1.length:Int)))]
theorem wZ (x:Int×Int):eJ (eM x)=true:=by
 unfold eM eJ dO eJ dO eJ dO
 rfl
theorem kP (b:List Int×Int):eJ (fZ b)=true:=by
 unfold fZ eJ dO
 rw [fO]
 unfold dO
 rw [wZ]
 unfold dO
 rfl
theorem rD {K:PySem.W.Frag} {H:Hp} {b:List Int×Int} {p q r:Addr} (h1:SqT K H p [.ref q,.ref r]) (h2:SqT K H q (b.1.map V.int)) (h3:SqT K H r [.int (bU (b.2,(b.1.length:Int))).1,.int (bU (b.2,(b.1.length:Int))).2]):Den K H (fZ b) (.ref p) :=
 bV.mpr ⟨p,_,rfl,h1,aJ.mpr ⟨_,_,rfl,bB.mpr ⟨q,rfl,h2⟩,aJ.mpr ⟨_,_,rfl,fX.mpr ⟨r,rfl,h3⟩,aL.mpr rfl⟩⟩⟩
theorem hX {K:PySem.W.Frag} {H:Hp} {b:List Int×Int} {v:V} (h:Den K H (fZ b) v):∃ p q r,v=.ref p/\SqT K H p [.ref q,.ref r]/\SqT K H q (b.1.map V.int)/\SqT K H r [.int (bU (b.2,(b.1.length:Int))).1,.int (bU (b.2,(b.1.length:Int))).2]:=by
 obtain ⟨p,xs,rfl,hp,hx⟩:=bV.mp h
 obtain ⟨x1,r1,rfl,d1,hr1⟩:=aJ.mp hx
 obtain ⟨x2,r2,rfl,d2,hr2⟩:=aJ.mp hr1
 rw [aL.mp hr2] at hp
 obtain ⟨q,rfl,hq⟩:=bB.mp d1
 obtain ⟨r,rfl,hr⟩:=fX.mp d2
 exact ⟨p,q,r,rfl,hp,hq,hr⟩
theorem kQ (i:Int) (l:List Int):(!inV (.int i) (l.map V.int))=!inS l i:=by rw [zP]; rfl
theorem rE (rows:bA) (s:List Int):(redu rows s).length<=rows.length:=by unfold redu; rw [Qa]; exact Je _ _
theorem RwS.redu {rows:bA} {s:List Int} (h:RwS rows):RwS (redu rows s):=fun r hr=>by
 obtain ⟨r0,h0,rfl⟩:=Qx.mp hr
 obtain ⟨a,b,c⟩:=h r0 (Qr.mp h0).1
 exact ⟨Qt (Je _ _) a,b,c⟩
theorem gI {n:Int} {ws:List (List Int)} {wt:List Int} (hb:dE (dZ n ws)=true) (hw:oF ws wt):cU (aQ n.toNat) (ws.zip wt)/\RwS (ws.zip wt)/\(ws.zip wt).length<=12:=by
 obtain ⟨h1,h2,h3,h4⟩:=cO hb
 have key:∀ r∈ws.zip wt,r.1≠[]/\(∀ h∈r.1,h∈aQ n.toNat)/\r.1.length<=6/\0<=r.2/\r.2<=99:=fun r hr=>by
  obtain ⟨a,b⟩:=Yk hr
  obtain ⟨c1,c2,c3⟩:=jA (h4 _ a)
  have:=jB (by omega) c2 c3
  have:=hw.2 _ b
  exact ⟨c1,fun h hh=>cH.mpr (by have:=c2 h hh; omega),by omega,this⟩
 exact ⟨fun r hr=>⟨(key r hr).1,(key r hr).2.1,(key r hr).2.2.2.1⟩,fun r hr=>(key r hr).2.2,by rw [Wj]; omega⟩
section
variable {P:Program} {w:World} {K:PySem.W.Frag} {mg:Str->Option Value} {base:Heap}
theorem aDd {H:Hp} {ws:List (List Int)} {wt:List Int} {xs zs:List V} (hx:aO K H (ws.map bN) xs) (hl:wt.length=ws.length) (hz:zs.length=min xs.length (wt.map V.int).length) (hp:Prs H xs (wt.map V.int) zs):aO K H ((ws.zip wt).map pD) zs:=by
 have hxl:=aK hx
 rw [Qa] at hxl
 rw [Qa] at hz
 refine tE (by rw [Qa,Wj]; omega) fun i d z h1 h2=>?_
 obtain ⟨q,x,y,rfl,h3,h4,h5⟩:=hp i z h2
 rw [Qg] at h1 h4
 obtain ⟨r,hr,rfl⟩:=Jb.mp h1
 obtain ⟨g,hg,rfl⟩:=Jb.mp h4
 obtain ⟨l,hl2,hl3⟩:=bM hx h3
 obtain ⟨a,rfl,ha⟩:=bB.mp hl3
 rw [Xu] at hr
 rw [hl2,hg] at hr
 have e1:l=r.1:=Option.some.inj hr.1
 have e2:g=r.2:=Option.some.inj hr.2
 rw [e1] at ha
 rw [e2] at h5
 exact oE (SqT.of h5) ha
def lG (K:PySem.W.Frag):Sp:=fun vs H Q _=>∃ (x:V) (n:Int) (ws:List (List Int)) (wp:Addr) (wt:List Int),vs = [x,.ref wp]/\Den K H (dZ n ws) x/\dE (dZ n ws)=true/\SqT K H wp (wt.map V.int)/\oF ws wt /\
 ∀ p us bs H',aC H H'->H p=none->H' p=some (.lst us)->aO K H' (bs.map fZ) us->bX (aQ n.toNat) (ws.zip wt) bs->us.length<=6->Q (.ref p) H'
theorem gW:FnScope ["book", "weights", "left", "rows", "told", "some", "weight"] ["book", "weights"] (aF gQ):=⟨rfl,rfl,rfl,by decide +kernel,rfl,by decide +kernel,by decide +kernel⟩
theorem aAG {f fN fV fL fI:Addr} {fd dN dV dL dI:FuncData} (G:Fn K mg "blocks" gQ ["book", "weights"] f fd) (B:Bl mg) (GNW:Fn K mg "need_weights" pA ["book", "weights"] fN dN) (ONW:FnOk P w K mg base CX0 6 fN dN ["book", "weights"] (rB K)) (GHv:Fn K mg "heaviest" jU ["hands", "rows"] fV dV) (OHv:FnOk P w K mg base CX0 2 fV dV ["hands", "rows"] (xZ K))
  (GL:Fn K mg "lowest" mT ["a", "b"] fL dL) (OL:FnOk P w K mg base CX0 2 fL dL ["a", "b"] iE) (GWi:Fn K mg "is_within" lL ["able", "some"] fI dI) (OWi:FnOk P w K mg base CX0 1 fI dI ["able", "some"] (nF K)):FnOk P w K mg base CX0 7 f fd ["book", "weights"] (lG K):=by
 refine G.fn.ok gW (fun vs H Q E h=>?_) (fun cdv A outer s H vs Q E hr h=>?_)
 ·obtain ⟨x,n,ws,wp,wt,rfl,_⟩:=h
  rfl
 ·obtain ⟨x,n,ws,wp,wt,rfl,hx,hbk,hwp,hwt,k⟩:=h
  have r6:Room 6 _:=hr
  have r2:Room 2 _:=hr.mono (by decide)
  have r1:Room 1 _:=hr.mono (by decide)
  refine ⟨_,(aE (kC (bK GNW ONW r6 rfl (aA (pv 0) (aA (pv 1) aD))))
  (aE (aS (i:=2) gW.nd rfl (Or.inl rfl) (bZ (mB rfl) rfl B.list qD (aA (bZ oO rfl B.range zC (aA (aY bL (pv 0) aH (fun _ _=>rfl)) aD)) aD)))
  (aE (aS (i:=3) gW.nd rfl (Or.inl rfl) (xP .t .t rfl rfl B.list rfl B.zip (aA (aY bL (pv 0) aH (fun _ _=>rfl)) (aA (pv 1) aD))))
  (aE (aS (i:=4) gW.nd rfl (Or.inl rfl) (fG aD))
  (aE (jP PassesOwn.never (vD (pv 2) (fun _=>rfl))
   (aE (tJ (bK GHv OHv r2 rfl (aA (pv 2) (aA (pv 3) aD))) (kD rfl (aV (aM (i:=5) gW.nd rfl (Or.inr rfl)) (aV (aM (i:=6) gW.nd rfl (Or.inl rfl)) eA))))
  (aE (kC (pN PySem.F.plainAttrs_list PySem.F.slot_list_append PySem.F.type_list_append lJ (pv 4) (aA (eE (aA (pv 5) (aA (bK GL OL r2 rfl (aA (pv 6) (aA (aP aU rfl B.len gG (aA (pv 5) aD)) aD))) aD))) aD)))
  (aE (fM (i:=2) (own:=["hand"]) (fr:=[5]) (frn:=["some"]) (aR (aF gQ) ["book", "weights", "left", "rows", "told", "some", "weight"] rfl rfl (by decide +kernel)) rfl gW.nd rfl rfl rfl (cG (pv 2))
    (fun _ _ _ _=>(aM (i:=0) (show (["hand", "some"]:List Str).Nodup by decide +kernel) rfl (Or.inl rfl))) (fun _ _ _ _=>jN (aW (hU (K:=K) rfl) (pv 0) (pv 1) (by with_unfolding_all rfl)))
    (fun _ _ _ _=>(pv 0)))
  (aE (fM (i:=3) (own:=["able", "heft"]) (fr:=[5]) (frn:=["some"]) (aR (aF gQ) ["book", "weights", "left", "rows", "told", "some", "weight"] rfl rfl (by decide +kernel)) rfl gW.nd rfl rfl rfl (cG (pv 3))
    (fun _ _ _ _=>(jJ (K:=K) (n:=2) rfl rfl (aV (aM (i:=0) (show (["able", "heft", "some"]:List Str).Nodup by decide +kernel) rfl (Or.inl rfl)) (aV (aM (i:=1) (show (["able", "heft", "some"]:List Str).Nodup by decide +kernel) rfl (Or.inl rfl)) eA)))) (fun _ _ _ _=>jN (eZ (eD (bK GWi OWi r1 rfl (aA (pv 0) (aA (pv 2) aD))))))
    (fun _ _ _ _=>(eE (aA (pv 0) (aA (pv 1) aD)))))
  (aI (fM (i:=3) (own:=["able", "heft"]) (fr:=[5]) (frn:=["some"]) (aR (aF gQ) ["book", "weights", "left", "rows", "told", "some", "weight"] rfl rfl (by decide +kernel)) rfl gW.nd rfl rfl rfl (cG (pv 3))
    (fun _ _ _ _=>(jJ (K:=K) (n:=2) rfl rfl (aV (aM (i:=0) (show (["able", "heft", "some"]:List Str).Nodup by decide +kernel) rfl (Or.inl rfl)) (aV (aM (i:=1) (show (["able", "heft", "some"]:List Str).Nodup by decide +kernel) rfl (Or.inl rfl)) eA)))) (fun _ _ _ _=>cI)
    (fun _ _ _ _=>(eE (aA (bZ (gR (K:=K) rfl) rfl B.tuple cX (aA (bR (own:=["hand"]) (fr:=[2]) (frn:=["some"]) (aR (aBn aDc (aF gQ)) ["able", "heft", "some"] rfl rfl (by decide +kernel)) rfl (nD (K:=K) rfl (pv 0))
    (fun _ _ _ _=>(aM (i:=0) (show (["hand", "some"]:List Str).Nodup by decide +kernel) rfl (Or.inl rfl))) (fun _ _ _ _=>jN (aW (hU (K:=K) rfl) (pv 0) (pv 1) (by with_unfolding_all rfl)))
    (fun _ _ _ _=>(pv 0))) aD)) (aA (pv 1) aD)))))))))))
  (aI (aT (pv 4)))))))),?_⟩
  obtain ⟨a,b,ys,rfl,ha,hb,hys⟩:=iZ hx
  have hly:=aK hys
  rw [Qa] at hly
  obtain ⟨hn1,hn6,h12,_⟩:=cO hbk
  obtain ⟨RO,RS,RL⟩:=gI hbk hwt
  refine ⟨_,rfl,_,rfl,_,n,ws,wp,wt,rfl,hx,hbk,hwp,hwt,fun H1 s1=>?_⟩
  refine ⟨_,rfl,a,_,0,.int n,rfl,rfl,s1.seqT ha,rfl,n,rfl,fun pr hpr=>⟨pr,n.toNat,rfl,by rw [aB,Zq (by omega)],by omega,fun lp hlp=>?_⟩⟩
  have s2:=s1.trans ((aC.new (o:=.rng 0 n) hpr).trans (aC.new (o:=.lst ((aQ n.toNat).map V.int)) hlp))
  have el:upd (upd H1 pr (.rng 0 n)) lp (.lst ((aQ n.toNat).map V.int)) lp=some (.lst ((aQ n.toNat).map V.int)):=aB
  generalize upd (upd H1 pr (.rng 0 n)) lp (.lst ((aQ n.toNat).map V.int))=H2 at s2 el ⊢
  refine ⟨_,rfl,a,_,1,.ref b,rfl,rfl,s2.seqT ha,rfl,_,rfl,b,wp,ys,_,rfl,s2.seqT hb,s2.seqT hwp,by rw [sizeLine_eq]; omega,fun rp zs H3 s3 nrp hrp hzl hprs=>?_⟩
  have s23:=s2.trans s3
  have D3:aO K H3 ((ws.zip wt).map pD) zs:=aDd (s23.denAll _ _ hys) hwt.1 hzl hprs
  refine ⟨bP (Jf _),fun tp htp=>?_⟩
  have s34:=aC.new (o:=.lst []) htp
  have ntp:H tp=none:=s23.free htp
  have et:upd H3 tp (.lst []) tp=some (.lst []):=aB
  have el4:=s34 _ _ (s3 _ _ el)
  have er4:=s34 _ _ hrp
  have nl:lp≠tp:=fun z=>by rw [<- z,s3 _ _ el] at htp; cases htp
  have nr:rp≠tp:=fun z=>by rw [<- z,hrp] at htp; cases htp
  have D4:=s34.denAll _ _ D3
  have s4:=s23.trans s34
  generalize upd H3 tp (.lst [])=H4 at s34 et el4 er4 D4 s4 ⊢
  -- the while
  refine ⟨fun m σ H5=>∃ lp rp hs zs rows us bs v5 v6,m=hs.length/\σ = [some (.ref a),some (.ref wp),some (.ref lp),some (.ref rp),some (.ref tp),v5,v6]/\aC H H5/\lp≠tp/\rp≠tp/\H5 lp=some (.lst (hs.map V.int))/\H5 rp=some (.lst zs)/\H5 tp=some (.lst us)/\aO K H5 (rows.map pD) zs/\aO K H5 (bs.map fZ) us/\us.length+hs.length<=6/\hs.Nodup/\cU hs rows/\RwS rows/\rows.length<=12/\∀ iK,bX hs rows iK->bX (aQ n.toNat) (ws.zip wt) (bs++iK),
   ⟨_,lp,rp,aQ n.toNat,zs,ws.zip wt,[],[],none,none,rfl,rfl,s4,nl,nr,el4,er4,et,D4,aL.mpr rfl,by rw [aZ]; show 0+_<=6; omega,iO _,RO,RS,RL,fun iK h=>h⟩,?_⟩
  rintro m σ H5 ⟨lp,rp,hs,zs,rows,us,bs,v5,v6,rfl,rfl,s5,nl,nr,el,er,et,DR,DB,hlen,hnd,RO,RS,RL,hcont⟩
  refine ⟨_,rfl,!(hs.map V.int).isEmpty,.inl ⟨_,SqL.of el,rfl⟩,?_⟩
  by_cases hne:hs = []
  ·subst hne
   refine eF ?_
   refine ⟨_,rfl,k tp us bs H5 s5 ntp et DB ?_ (by simpa using hlen)⟩
   have:=hcont [] rfl
   rwa [Jw] at this
  ·refine aBV (by cases hs with
    | nil=>exact absurd rfl hne
    | cons _ _=>rfl) ?_
   refine ⟨fun σ' H'=>∃ m',m' < hs.length/\∃ lp rp hs zs rows us bs v5 v6,m'=Yl hs/\σ' = [some (.ref a),some (.ref wp),some (.ref lp),some (.ref rp),some (.ref tp),v5,v6]/\aC H H'/\lp≠tp/\rp≠tp/\H' lp=some (.lst (hs.map V.int))/\H' rp=some (.lst zs)/\H' tp=some (.lst us)/\aO K H' (rows.map pD) zs/\aO K H' (bs.map fZ) us/\us.length+hs.length<=6/\hs.Nodup/\cU hs rows/\RwS rows/\rows.length<=12/\∀ iK,bX hs rows iK->bX (aQ n.toNat) (ws.zip wt) (bs++iK),fun σ' H' z=>z,?_⟩
   refine ⟨_,rfl,_,rfl,lp,rp,hs,zs,rows,rfl,SqL.of el,SqL.of er,DR,by omega,RL,RS,fun p q c mm H6 s6 hp hq hbest=>?_⟩
   have HV:=aC1 hnd RO hne hbest
   obtain ⟨c1,c2,c3,_⟩:=id HV
   have cl:c.length<=6:=by rw [c2]; exact Qt (Je _ _) (by omega)
   have c0:0 < c.length:=Jp.mpr c1
   refine ⟨p,_,rfl,hp,rfl,_,_,rfl,_,_,rfl,rfl,?_⟩
   refine ⟨_,rfl,.inl ⟨rfl,_,SqL.of (s6 _ _ et)⟩,_,rfl,_,rfl,_,rfl,q,_,rfl,.inr hq,mm,_,rfl,by rw [Qa]; omega,?_,fun pf hpf=>⟨bP (show 2<=1000 by decide),fun pb hpb=>?_⟩⟩
   ·rw [Qa]
    have:((c.length:Nat):Int)<=6:=by omega
    exact Xm this (by decide)
   -- told,one block more
   have hlc:(((c.map V.int).length:Nat):Int)=c.length:=by rw [Qa]
   rw [hlc] at hpb ⊢
   have s7:=(aC.new (o:=.tup [.int (fQ mm c.length),.int (gD mm c.length)]) hpf).trans (aC.new (o:=.tup [.ref q,.ref pf]) hpb)
   have db:Den K (upd (upd H6 pf (.tup [.int (fQ mm c.length),.int (gD mm c.length)])) pb (.tup [.ref q,.ref pf])) (fZ (c,mm)) (.ref pb):=rD (SqT.of aB) (s7.seqT hq) ((aC.new hpb).seqT (SqT.of aB))
   generalize upd (upd H6 pf (.tup [.int (fQ mm c.length),.int (gD mm c.length)])) pb (.tup [.ref q,.ref pf])=H7 at s7 db ⊢
   have s67:=s6.trans s7
   have et7:=s67 _ _ et
   refine ⟨tp,us,.ref pb,rfl,rfl,et7,by rw [sizeLine_eq]; omega,?_⟩
   have b8:But tp H7 (upd H7 tp (.lst (us++[.ref pb]))):=But.at
   have s8:aC H (upd H7 tp (.lst (us++[.ref pb]))):=aBY (s5.trans s67) ntp
   have el8:upd H7 tp (.lst (us++[.ref pb])) lp=_:=(aG nl).trans (s67 _ _ el)
   have er8:upd H7 tp (.lst (us++[.ref pb])) rp=_:=(aG nr).trans (s67 _ _ er)
   have et8:upd H7 tp (.lst (us++[.ref pb])) tp=some (.lst (us++[.ref pb])):=aB
   have DR8:=b8.denAll et7 _ _ (cL pD (fun r=>wY r.1 r.2) rows) (s67.denAll _ _ DR)
   have DB8:aO K (upd H7 tp (.lst (us++[.ref pb]))) ((bs++[(c,mm)]).map fZ) (us++[.ref pb]):=by
    rw [Qp]
    exact bC (b8.denAll et7 _ _ (cL fZ kP bs) (s67.denAll _ _ DB)) (aJ.mpr ⟨_,_,rfl,b8.den et7 _ _ (kP _) db,aL.mpr rfl⟩)
   have hq8:=b8.seqT et7 (s7.seqT hq)
   generalize upd H7 tp (.lst (us++[.ref pb]))=H8 at s8 el8 er8 et8 DR8 DB8 hq8 ⊢
   -- left
   refine ⟨_,rfl,lp,rfl,⟨_,SqL.of el8⟩,eU (K:=K) (a:=lp) (xs:=hs.map V.int) (fun σ=>∃ v,σ = [v,some (.ref q)]) (fun j ys H9=>aC H8 H9/\ys=((hs.take j).filter fun h=>!inS c h).map V.int) (bP (by rw [Qa]; omega)) ⟨none,rfl⟩ ⟨aC.refl _,rfl⟩ ?_ (fun j ys H9 ⟨s9,_⟩=>s9.seqL (SqL.of el8)) ?_ ?_⟩
   ·rintro j ys H9 ⟨_,rfl⟩
    rw [Qa]
    exact Qt (Je _ _) (by rw [Jd]; exact Jt _ _)
   ·rintro j ys σ y H9 hy ⟨v,rfl⟩ ⟨s9,rfl⟩ hz
    rw [Qg] at hy
    obtain ⟨h,hh,rfl⟩:=Jb.mp hy
    refine ⟨_,rfl,_,rfl,q,c.map V.int,rfl,.inr (s9.seqT hq8),rfl,jV _,_,rfl,?_⟩
    have e:(!inV (.int h) (c.map V.int))=!inS c h:=kQ h c
    show if (!inV (.int h) (c.map V.int))=true then _ else _
    rw [e,bQ hh,Xj,Qp]
    cases hc:inS c h with
    | false =>
     refine iT ⟨_,rfl,hz,⟨_,rfl⟩,s9,?_⟩
     rw [Qw,hc]; rfl
    | true =>
     refine eF ⟨⟨_,rfl⟩,s9,?_⟩
     rw [Qw,hc]
     show _=_++[]
     rw [Jw]
   ·rintro ys H9 ⟨s9,rfl⟩ l2 hl2
    rw [Qa,Jk]
    have s10:=s9.trans (aC.new (o:=.lst ((hs.filter fun h=>!inS c h).map V.int)) hl2)
    have nl2:l2≠tp:=fun z=>by rw [z,s9 _ _ et8] at hl2; cases hl2
    have el10:upd H9 l2 (.lst ((hs.filter fun h=>!inS c h).map V.int)) l2=_:=aB
    generalize upd H9 l2 (.lst ((hs.filter fun h=>!inS c h).map V.int))=H10 at s10 el10 ⊢
    -- rows: those not within
    have hzl:=aK DR
    rw [Qa] at hzl
    refine ⟨_,rfl,rp,rfl,⟨_,SqL.of (s10 _ _ er8)⟩,eU (K:=K) (a:=rp) (xs:=zs) (fun σ=>∃ v w,σ = [v,w,some (.ref q)]) (fun j ys H11=>aC H10 H11/\aO K H11 (((rows.take j).filter fun r=>!(r.1.all (inS c))).map pD) ys) (bP (by omega)) ⟨none,none,rfl⟩ ⟨aC.refl _,aL.mpr rfl⟩ ?_ (fun j ys H11 ⟨s11,_⟩=>s11.seqL (SqL.of (s10 _ _ er8))) ?_ ?_⟩
    ·rintro j ys H11 ⟨_,d11⟩
     rw [aK d11,Qa]
     exact Qt (Je _ _) (by rw [Jd]; exact Jt _ _)
    ·rintro j ys σ y H11 hy ⟨v,w,rfl⟩ ⟨s11,d11⟩ hz
     have s1011:=s10.trans s11
     obtain ⟨r,hr,hrd⟩:=bM (s1011.denAll _ _ DR8) hy
     obtain ⟨pp,pq,rfl,hpp,hpq⟩:=rA hrd
     obtain ⟨r6,_,_⟩:=RS r (Qe hr)
     refine ⟨pp,_,rfl,hpp,rfl,_,_,rfl,_,_,rfl,rfl,?_⟩
     refine ⟨_,rfl,_,rfl,pq,q,r.1,c,rfl,hpq,s1011.seqT hq8,by omega,fun H12 s12=>⟨_,rfl,?_⟩⟩
     rw [bQ hr,Xj,Qp]
     show if (!(r.1.all (inS c)))=true then _ else _
     cases hw:r.1.all (inS c) with
     | false =>
      refine iT ⟨_,rfl,_,rfl,bP (show 2<=1000 by decide),fun pn hpn=>⟨hz,⟨_,_,rfl⟩,s11.trans (s12.trans (aC.new hpn)),?_⟩⟩
      refine bC ((s12.trans (aC.new hpn)).denAll _ _ d11) ?_
      rw [Qw,hw]
      exact aJ.mpr ⟨_,_,rfl,oE (SqT.of aB) ((s12.trans (aC.new hpn)).seqT hpq),aL.mpr rfl⟩
     | true =>
      refine eF ⟨⟨_,_,rfl⟩,s11.trans s12,?_⟩
      rw [Qw,hw]
      show aO K _ (_++[]) _
      rw [Jw]
      exact s12.denAll _ _ d11
    ·rintro ys H11 ⟨s11,d11⟩ rp1 hrp1
     rw [hzl,Jk] at d11
     have s12:=s11.trans (aC.new (o:=.lst ys) hrp1)
     have er12:upd H11 rp1 (.lst ys) rp1=some (.lst ys):=aB
     have d12:=(aC.new (o:=.lst ys) hrp1).denAll _ _ d11
     generalize upd H11 rp1 (.lst ys)=H12 at s12 er12 d12 ⊢
     have hyl:=aK d12
     rw [Qa] at hyl
     have hyl2:ys.length<=12:=by rw [hyl]; exact Qt (Je _ _) RL
     generalize hR1:(rows.filter fun r=>!(r.1.all (inS c)))=rows1 at d12 hyl
     have RS1:∀ r∈rows1,r.1.length<=6:=fun r hr=>by rw [<- hR1] at hr; exact (RS r (Qr.mp hr).1).1
     refine ⟨_,rfl,rp1,rfl,⟨_,SqL.of er12⟩,eU (K:=K) (a:=rp1) (xs:=ys) (fun σ=>∃ v w,σ = [v,w,some (.ref q)]) (fun j zs H13=>aC H12 H13/\aO K H13 (((rows1.take j).map fun r=>(r.1.filter fun h=>!inS c h,r.2)).map pD) zs) (bP (by omega)) ⟨none,none,rfl⟩ ⟨aC.refl _,aL.mpr rfl⟩ ?_ (fun j zs H13 ⟨s13,_⟩=>s13.seqL (SqL.of er12)) ?_ ?_⟩
     ·rintro j zs H13 ⟨_,d13⟩
      rw [aK d13,Qa,Qa,Jd]
      exact Jt _ _
     ·rintro j zs σ y H13 hy ⟨v,w,rfl⟩ ⟨s13,d13⟩ hz
      obtain ⟨r,hr,hrd⟩:=bM (s13.denAll _ _ d12) hy
      obtain ⟨pp,pq,rfl,hpp,hpq⟩:=rA hrd
      have hr6:=RS1 r (Qe hr)
      have sq:=(s10.trans s12).trans s13
      refine ⟨pp,_,rfl,hpp,rfl,_,_,rfl,_,_,rfl,rfl,?_⟩
      refine ⟨_,rfl,pq,rfl,⟨_,hpq⟩,iB (K:=K) (a:=pq) (xs:=r.1.map V.int) (fun σ=>∃ v,σ = [v,some (.ref q)]) (fun i as H14=>aC H13 H14/\as=((r.1.take i).filter fun h=>!inS c h).map V.int) (bP (by rw [Qa]; omega)) ⟨none,rfl⟩ ⟨aC.refl _,rfl⟩ ?_ (fun i as H14 ⟨s14,_⟩=>s14.seqT hpq) ?_ ?_⟩
      ·rintro i as H14 ⟨_,rfl⟩
       rw [Qa]
       exact Qt (Je _ _) (by rw [Jd]; exact Jt _ _)
      ·rintro i as σ y H14 hy ⟨v,rfl⟩ ⟨s14,rfl⟩ hz2
       rw [Qg] at hy
       obtain ⟨h,hh,rfl⟩:=Jb.mp hy
       refine ⟨_,rfl,_,rfl,q,c.map V.int,rfl,.inr ((sq.trans s14).seqT hq8),rfl,jV _,_,rfl,?_⟩
       have e:(!inV (.int h) (c.map V.int))=!inS c h:=kQ h c
       show if (!inV (.int h) (c.map V.int))=true then _ else _
       rw [e,bQ hh,Xj,Qp]
       cases hc:inS c h with
       | false =>
        refine iT ⟨_,rfl,hz2,⟨_,rfl⟩,s14,?_⟩
        rw [Qw,hc]; rfl
       | true =>
        refine eF ⟨⟨_,rfl⟩,s14,?_⟩
        rw [Qw,hc]
        show _=_++[]
        rw [Jw]
      ·rintro as H14 ⟨s14,rfl⟩ pl hpl
       rw [Qa,Jk]
       refine ⟨pl,_,rfl,.inl ⟨SqL.of aB,fun pt hpt=>?_⟩⟩
       refine ⟨_,rfl,bP (show 2<=1000 by decide),fun pn hpn=>⟨hz,⟨_,_,rfl⟩,?_,?_⟩⟩
       ·exact s13.trans (s14.trans ((aC.new hpl).trans ((aC.new hpt).trans (aC.new hpn))))
       ·rw [bQ hr,Qp,Qp]
        refine bC ((s14.trans ((aC.new hpl).trans ((aC.new hpt).trans (aC.new hpn)))).denAll _ _ d13) ?_
        exact aJ.mpr ⟨_,_,rfl,oE (SqT.of aB) ((aC.new hpn).seqT (SqT.of aB)),aL.mpr rfl⟩
     ·rintro zs2 H13 ⟨s13,d13⟩ rp2 hrp2
      rw [hyl,Jk] at d13
      have s14:=s13.trans (aC.new (o:=.lst zs2) hrp2)
      have nr2:rp2≠tp:=fun z=>by rw [z,((s10.trans s12).trans s13) _ _ et8] at hrp2; cases hrp2
      have sA:=s10.trans (s12.trans s14)
      have hlt:(hs.filter fun h=>!inS c h).length < hs.length:=by
       have e:hs.length=(hs.filter (inS c)).length+(hs.filter fun h=>!inS c h).length:=by
        have:=oB c2 (fun _=>true)
        unfold eK at this
        rw [Yp.mpr (fun a _=>by simp),Yp.mpr (fun a _=>rfl)] at this
        rw [<- c2]; omega
       rw [<- c2] at e
       omega
      have eR:rows1.map (fun r=>(r.1.filter fun h=>!inS c h,r.2))=redu rows c:=by rw [<- hR1]; rfl
      rw [eR] at d13
      refine ⟨_,hlt,l2,rp2,hs.filter fun h=>!inS c h,zs2,redu rows c,us++[.ref pb],bs++[(c,mm)],_,_,rfl,rfl,s8.trans sA,nl2,nr2,(s12.trans s14) _ _ el10,aB,sA _ _ et8,(aC.new hrp2).denAll _ _ d13,sA.denAll _ _ DB8,?_,hnd.filter _,RO.redu,RS.redu,Qt (rE _ _) RL,fun iK hrest=>?_⟩
      ·rw [Qv,Jz]; omega
      ·rw [List.append_assoc]
       exact hcont ((c,mm)::iK) ⟨HV,hrest⟩
end
end Ab
namespace L2
open PySem
theorem aC.wr {H H':Hp} {a:Addr} {u:HO} (e:aC H H') (h:H a=none):aC H (upd H' a u):=Ab.aBY e h
end L2
namespace Ab
open PySem L2
theorem iP:∀ (n:Nat) (l:List Int),l.Nodup->(∀ x∈l,0<=x/\x < (n:Int))->l.length<=n
 | 0,[],_,_=>Qh _
 | 0,x::_,_,h=>by have:=h x (.head _); omega
 | n+1,l,hn,h=>by
  by_cases hm:(n:Int)∈l
  ·have h1:=iP n (l.erase (n:Int)) (hn.erase _) fun x hx=>by
    have h2:=(hn.mem_erase_iff).mp hx
    have h3:=h x h2.2
    have:=h2.1
    omega
   rw [List.length_erase_of_mem hm] at h1
   omega
  ·have h1:=iP n l hn fun x hx=>by
    have h3:=h x hx
    have:x≠(n:Int):=fun z=>hm (z ▸ hx)
    omega
   omega
theorem eQ {xs:List Int} {i:Nat} {v:V} (h:(xs.map V.int)[i]?=some v):∃ a,xs[i]?=some a/\v=.int a:=by
 rw [Qg] at h
 cases q:xs[i]? with
 | none=>rw [q] at h; cases h
 | some a=>rw [q] at h; exact ⟨a,rfl,(Option.some.inj h).symm⟩
theorem aEn {n:Nat} {k:Int} (h0:0<=k) (h1:k < n):ixN n k=some k.toNat:=by
 unfold ixN
 rw [if_pos h0,if_pos (by omega)]
def oG (E:Nat->Int->Prop) (r:List (Key×V)):Prop:=(∀ k v,bY r k=some v->∃ (w:Nat) (t:Int),k=.inl t/\v=.int (w:Nat)/\E w t)/\∀ w t,E w t->(bY r (.inl t)).isSome=true
theorem oG.nil {E:Nat->Int->Prop} (h:∀ w t,¬ E w t):oG E []:=⟨fun k v e=>(by rw [aBq] at e; cases e),fun w t e=>(h w t e).elim⟩
theorem oG.put {E:Nat->Int->Prop} {r:List (Key×V)} (h:oG E r) (w:Nat) (t:Int):oG (fun w' t'=>E w' t'∨(w'=w/\t'=t)) (eG r (.inl t) (.int (w:Nat))):=by
 refine ⟨fun k v e=>?_,fun w' t' e=>?_⟩
 ·rw [iW] at e
  by_cases hk:k=Sum.inl t
  ·rw [if_pos hk] at e
   exact ⟨w,t,hk,(Option.some.inj e).symm,.inr ⟨rfl,rfl⟩⟩
  ·rw [if_neg hk] at e
   obtain ⟨w',t',h1,h2,h3⟩:=h.1 k v e
   exact ⟨w',t',h1,h2,.inl h3⟩
 ·rw [iW]
  by_cases hk:(Sum.inl t':Key)=Sum.inl t
  ·rw [if_pos hk]; rfl
  ·rw [if_neg hk]
   rcases e with e | ⟨_,e⟩
   ·exact h.2 w' t' e
   ·exact absurd (by rw [e]) hk
theorem oG.congr {E E':Nat->Int->Prop} {r:List (Key×V)} (h:oG E r) (e:∀ w t,E w t↔E' w t):oG E' r:=⟨fun k v q=>let ⟨w,t,a,b,c⟩:=h.1 k v q; ⟨w,t,a,b,(e w t).mp c⟩,fun w t q=>h.2 w t ((e w t).mpr q)⟩
structure Rows (H:Hp) (rp:Addr) (qs:List Addr) (rs:List (List (Key×V))):Prop where
 lst:H rp=some (.lst (qs.map V.ref))
 len:qs.length=rs.length
 nd:qs.Nodup
 row:∀ (g:Nat) q r,qs[g]?=some q->rs[g]?=some r->H q=some (.dK r)
theorem Rows.same {H H':Hp} {rp:Addr} {qs:List Addr} {rs:List (List (Key×V))} (h:Rows H rp qs rs) (s:aC H H'):Rows H' rp qs rs:=⟨s _ _ h.lst,h.len,h.nd,fun g q r a b=>s _ _ (h.row g q r a b)⟩
theorem Rows.put {H:Hp} {rp:Addr} {qs:List Addr} {rs:List (List (Key×V))} (h:Rows H rp qs rs) {g:Nat} {q:Addr} {r r':List (Key×V)} (hq:qs[g]?=some q) (hr:rs[g]?=some r):Rows (upd H q (.dK r')) rp qs (rs.set g r'):=by
 have hg:=h.row g q r hq hr
 have nq:rp≠q:=fun z=>by have:=h.lst; rw [z,hg] at this; cases this
 refine ⟨by rw [aG nq]; exact h.lst,by rw [Xv]; exact h.len,h.nd,fun g2 q2 r2 h1 h2=>?_⟩
 rw [Xo] at h2
 by_cases e:g=g2
 ·subst e
  rw [if_pos rfl] at h2
  rw [hq] at h1
  cases h1
  by_cases hl:g < rs.length
  ·rw [if_pos hl] at h2; cases h2; exact aB
  ·rw [if_neg hl] at h2; cases h2
 ·rw [if_neg e] at h2
  have n2:q2≠q:=fun z=>by
   subst z
   have hlt:g < qs.length:=(Qd.mp hq).1
   exact e ((Zz hlt h.nd).mp (hq.trans h1.symm))
  rw [aG n2]
  exact h.row g2 q2 r2 h1 h2
theorem Rows.other {H:Hp} {rp a:Addr} {u:HO} {qs:List Addr} {rs:List (List (Key×V))} (h:Rows H rp qs rs) (hn:H a=none):Rows (upd H a u) rp qs rs:=h.same (aC.new hn)
def aDG (E:Int->Nat->Int->Prop) (rs:List (List (Key×V))) (m:Nat):Prop:=∀ (g:Nat) r,rs[g]?=some r->oG (E g) r/\r.length<=m
def Tp (H H':Hp):Prop:=∀ p xs,H p=some (.tup xs)->H' p=some (.tup xs)
theorem Tp.of {H H':Hp} (s:aC H H'):Tp H H':=fun _ _ h=>s _ _ h
theorem Tp.trans {H H1 H2:Hp} (a:Tp H H1) (b:Tp H1 H2):Tp H H2:=fun p xs h=>b p xs (a p xs h)
theorem Tp.upd {H:Hp} {a:Addr} {u:HO} (h:∀ xs,H a≠some (.tup xs)):Tp H (upd H a u):=fun p xs e=>by
 have ne:p≠a:=fun z=>h xs (by rw [<- z]; exact e)
 rw [aG ne]; exact e
theorem pF {fs:List (Key×V)} {os:List Int} (h:fs.map (·.1)=os.map Sum.inl) (t:Int):(bY fs (.inl t)).isSome=decide (t∈os):=by
 rw [<- eT]
 have:(fs.any fun kv=>decide (kv.1=Sum.inl t))=((fs.map (·.1)).any fun k=>decide (k=Sum.inl t)):=by rw [Yt]; rfl
 rw [this,h,Yt,Jl]
 simp
structure Tree (Ed:Int->Nat->Int->Prop) (n first:Int) (H:Hp) (fs:List (Key×V)) (os:List Int):Prop where
 keys:fs.map (·.1)=os.map Sum.inl
 nd:os.Nodup
 rng:∀ o∈os,0<=o/\o < n
 head:os[0]?=some first
 v0:bY fs (.inl first)=some .non
 par:∀ (j:Nat) (t:Int),0 < j->os[j]?=some t->∃ (p:Addr) (w:Nat) (g:Int) (i:Nat),bY fs (.inl t)=some (.ref p)/\H p=some (.tup [.int (w:Nat),.int g,.int t])/\Ed g w t/\i < j/\os[i]?=some g
section
variable {Ed:Int->Nat->Int->Prop} {n first:Int} {H H':Hp} {fs:List (Key×V)} {os:List Int}
theorem Tree.tp (T:Tree Ed n first H fs os) (e:Tp H H'):Tree Ed n first H' fs os :=
 ⟨T.keys,T.nd,T.rng,T.head,T.v0,fun j t h0 h1=>let ⟨p,w,g,i,a,b,c⟩:=T.par j t h0 h1; ⟨p,w,g,i,a,e _ _ b,c⟩⟩
theorem Tree.len (T:Tree Ed n first H fs os):os.length<=n.toNat:=iP _ _ T.nd fun x hx=>by have:=T.rng x hx; omega
theorem Tree.flen (T:Tree Ed n first H fs os):fs.length=os.length:=by
 have:=congrArg Yl T.keys
 rwa [Qa,Qa] at this
theorem Tree.one (h0:0<=first) (h1:first < n):Tree Ed n first H [(.inl first,.non)] [first] :=
 ⟨rfl,by simp,fun o ho=>by rw [Qs.mp ho]; exact ⟨h0,h1⟩,rfl,eI rfl,fun j t h2 h3=>by
  cases j with
  | zero=>omega
  | succ j=>simp at h3⟩
theorem Tree.grow (T:Tree Ed n first H fs os) {p:Addr} {w:Nat} {g t:Int} {i:Nat} (hp:H p=some (.tup [.int (w:Nat),.int g,.int t])) (e:Ed g w t) (hi:os[i]?=some g) (ht:t∉os) (r0:0<=t) (r1:t < n) :
  Tree Ed n first H (fs++[(.inl t,.ref p)]) (os++[t]):=by
 have hv:bY fs (.inl t)=none:=by
  have:=pF T.keys t
  rw [decide_eq_false ht] at this
  cases q:bY fs (.inl t) with
  | none=>rfl
  | some v=>rw [q] at this; cases this
 have hlt:i < os.length:=(Qd.mp hi).1
 have val:∀ j:Key,bY (fs++[(.inl t,.ref p)]) j=if j=.inl t then some (.ref p) else bY fs j:=fun j=>nV _ _ _ _ hv
 have hf:first∈os:=Qe T.head
 refine ⟨by rw [Qp,Qp,T.keys]; rfl,?_,fun o ho=>?_,?_,?_,fun j t' h0 h1=>?_⟩
 ·rw [Yb]
  exact ⟨T.nd,by simp,fun x hx y hy z=>ht (by rw [<- Qs.mp hy,<- z]; exact hx)⟩
 ·rcases Jm.mp ho with h | h
  ·exact T.rng o h
  ·rw [Qs.mp h]; exact ⟨r0,r1⟩
 ·rw [Jg (by omega)]; exact T.head
 · rw [val, if_neg (fun z => ht (by have : first = t := by simpa using z
                                    rw [<- this]; exact hf))]
   exact T.v0
 ·by_cases hj:j < os.length
  ·rw [Jg hj] at h1
   obtain ⟨p',w',g',i',a,b,c,d,e'⟩:=T.par j t' h0 h1
   have ne : (Sum.inl t' : Key) ≠ Sum.inl t := fun z => ht (by have : t' = t := by simpa using z
                                                               rw [<- this]; exact Qe h1)
   exact ⟨p',w',g',i',by rw [val,if_neg ne]; exact a,b,c,d,by rw [Jg (by omega)]; exact e'⟩
  ·have ej:j=os.length:=by
    have:=(Qd.mp h1).1
    rw [Qv] at this
    simp at this
    omega
   subst ej
   rw [Jn (Qh _),Nat.sub_self] at h1
   have et:t'=t:=by simpa using h1.symm
   subst et
   exact ⟨p,w,g,i,by rw [val,if_pos rfl],hp,e,hlt,by rw [Jg hlt]; exact hi⟩
end
section
variable {P:Program} {w:World} {K:PySem.W.Frag} {mg:Str->Option Value} {base:Heap}
def aDe (Ed:Int->Nat->Int->Prop) (os:List Int):Prop:=∀ g∈os,∀ w t,Ed g w t->t∈os
def oH (K:PySem.W.Frag):Sp:=fun vs H Q _=>∃ rp first qs rs n Ed,vs = [.ref rp,.int first]/\Rows H rp qs rs/\rs.length=n.toNat/\aDG Ed rs 1000/\(∀ g w t,Ed g w t->0<=t/\t < n)/\n<=100/\0<=first/\first < n /\
 ∀ fd H' fs os,aC H H'->H fd=none->H' fd=some (.dK fs)->Tree Ed n first H' fs os->aDe Ed os->Q (.ref fd) H'
theorem jY:FnScope ["rows", "first", "found", "waiting", "giver", "taker"] ["rows", "first"] (aF mU):=⟨rfl,rfl,rfl,by decide +kernel,rfl,by decide +kernel,by decide +kernel⟩
theorem yA {f:Addr} {fd:FuncData} (G:Fn K mg "reached" mU ["rows", "first"] f fd) (B:Bl mg):FnOk P w K mg base CX0 1 f fd ["rows", "first"] (oH K):=by
 refine G.fn.ok jY (fun vs H Q E h=>?_) (fun cdv A outer s H vs Q E hr h=>?_)
 ·obtain ⟨rp,first,qs,rs,n,Ed,rfl,_⟩:=h
  rfl
 ·obtain ⟨rp,first,qs,rs,n,Ed,rfl,R,hlr,ER,hedge,hn6,hf0,hf1,k⟩:=h
  refine ⟨_,(aE (aS (i:=2) jY.nd rfl (Or.inl rfl) (wC (pv 1) aDO))
   (aE (aS (i:=3) jY.nd rfl (Or.inl rfl) (fG (aA (pv 1) aD)))
   (aE (jP PassesOwn.never (vD (pv 3) (fun _=>rfl))
    (aE (aS (i:=4) jY.nd rfl (Or.inl rfl) (pN PySem.F.plainAttrs_list PySem.F.slot_list_pop PySem.F.type_list_pop aA7 (pv 3) (aA aH aD)))
    (aI (yY (fE PassesOwn.never rfl (tS (aY dG (pv 0) (pv 4) (fun _ _=>rfl))) (aM (i:=5) jY.nd rfl (Or.inl rfl))
     (aI (cY (aAX (aAq (kR hr) (pv 5) (pv 2)) (by with_unfolding_all rfl))
      (aE (tR (kR hr) (pv 2) (pv 5) (eE (aA (kF (kR hr) (aY dG (pv 0) (pv 4) (fun _ _=>rfl)) (pv 5) (fun _ _=>rfl)) (aA (pv 4) (aA (pv 5) aD)))) rfl)
      (aI (kC (pN PySem.F.plainAttrs_list PySem.F.slot_list_append PySem.F.type_list_append lJ (pv 3) (aA (pv 5) aD)))))
      bO)))))))
   (aI (aT (pv 2)))))),?_⟩
  intro fd0 hfd0
  refine ⟨_,rfl,.inl first,rfl,aB,?_⟩
  rw [yF]
  have s1:=aC.new (o:=.dK [(.inl first,.non)]) hfd0
  have e1:upd H fd0 (.dK [(.inl first,.non)]) fd0=some (.dK [(.inl first,.non)]):=aB
  generalize upd H fd0 (.dK [(.inl first,.non)])=H1 at s1 e1 ⊢
  refine ⟨_,rfl,sz1 _,fun wt hwt=>?_⟩
  have hwt0:H wt=none:=s1.free hwt
  have nfw:fd0≠wt:=fun z=>by rw [z,hwt] at e1; cases e1
  have s2:=s1.trans (aC.new (o:=.lst [.int first]) hwt)
  have e2:=(aC.new (o:=.lst [.int first]) hwt) _ _ e1
  have w2:upd H1 wt (.lst [.int first]) wt=some (.lst [.int first]):=aB
  generalize upd H1 wt (.lst [.int first])=H2 at s2 e2 w2 ⊢
  -- the while
  refine ⟨fun m σ H3=>∃ (v4 v5:Option V) (mm:Nat) (fs:List (Key×V)) (os:List Int),σ = [some (.ref rp),some (.int first),some (.ref fd0),some (.ref wt),v4,v5]/\m=n.toNat - mm/\aC H H3/\H3 fd0=some (.dK fs)/\H3 wt=some (.lst ((os.drop mm).map V.int))/\Tree Ed n first H3 fs os/\mm<=os.length /\
    ∀ (i:Nat) (g:Int),i < mm->os[i]?=some g->∀ w t,Ed g w t->t∈os,
   ⟨n.toNat - 0,none,none,0,_,[first],rfl,rfl,s2,e2,w2,Tree.one hf0 hf1,Jf _,fun i g hi=>absurd hi (Nat.not_lt_zero _)⟩,?_⟩
  rintro m σ H3 ⟨v4,v5,mm,fs,os,rfl,rfl,s3,e3,w3,T3,hmm,pr3⟩
  refine ⟨_,rfl,!((os.drop mm).map V.int).isEmpty,.inl ⟨_,SqL.of w3,rfl⟩,?_⟩
  by_cases hend:mm < os.length
  ·-- a turn
   have hne:(os.drop mm)≠[]:=by
    intro z
    have:=congrArg Yl z
    rw [Ye] at this
    simp at this
    omega
   have hb:(!((os.drop mm).map V.int).isEmpty)=true:=by
    cases q:os.drop mm with
    | nil=>exact absurd q hne
    | cons _ _=>rfl
   rw [hb]
   refine iT ?_
   have hdrop:os.drop mm=os[mm]::os.drop (mm+1):=Yw hend
   have hgm:os[mm]?=some (os[mm]):=Qc hend
   generalize os[mm]=g at hdrop hgm
   obtain ⟨hg0,hg1⟩:=T3.rng g (Qe hgm)
   have holen:=T3.len
   refine ⟨fun σ' H'=>∃ m',m' < n.toNat - mm/\∃ (v4 v5:Option V) (mm:Nat) (fs:List (Key×V)) (os:List Int),σ' = [some (.ref rp),some (.int first),some (.ref fd0),some (.ref wt),v4,v5]/\m'=n.toNat - mm/\aC H H'/\H' fd0=some (.dK fs)/\H' wt=some (.lst ((os.drop mm).map V.int))/\Tree Ed n first H' fs os/\mm<=os.length /\
    ∀ (i:Nat) (g:Int),i < mm->os[i]?=some g->∀ w t,Ed g w t->t∈os,fun σ' H' z=>z,?_⟩
   refine ⟨_,rfl,.inl ⟨rfl,_,SqL.of w3⟩,?_⟩
   have hx0:((os.drop mm).map V.int)[0]?=some (.int g):=by rw [hdrop]; rfl
   have hxl:0 < ((os.drop mm).map V.int).length:=(Qd.mp hx0).1
   refine ⟨wt,_,0,0,.int g,rfl,rfl,w3,by decide,by decide,tT (i:=0) (by decide) hxl,hx0,?_⟩
   have her:((os.drop mm).map V.int).eraseIdx 0=(os.drop (mm+1)).map V.int:=by rw [hdrop]; rfl
   rw [her]
   have s4:=s3.wr (u:=.lst ((os.drop (mm+1)).map V.int)) hwt0
   have e4:upd H3 wt (.lst ((os.drop (mm+1)).map V.int)) fd0=some (.dK fs):=by rw [aG nfw]; exact e3
   have w4:upd H3 wt (.lst ((os.drop (mm+1)).map V.int)) wt=some (.lst ((os.drop (mm+1)).map V.int)):=aB
   have T4:=T3.tp (Tp.upd (a:=wt) (u:=.lst ((os.drop (mm+1)).map V.int)) fun xs z=>by rw [w3] at z; cases z)
   generalize upd H3 wt (.lst ((os.drop (mm+1)).map V.int))=H4 at s4 e4 w4 T4 ⊢
   -- the row
   have R4:=R.same s4
   have hgl:g.toNat < qs.length:=by rw [R.len,hlr]; omega
   have hcast:((g.toNat:Nat):Int)=g:=by omega
   obtain ⟨qg,hqg⟩:∃ q,qs[g.toNat]?=some q:=⟨_,Qc hgl⟩
   obtain ⟨r,hr⟩:∃ r,rs[g.toNat]?=some r:=⟨_,Qc (by rw [hlr]; omega)⟩
   have hat:atI (qs.map V.ref) g=some (.ref qg):=by
    have:=gC (xs:=qs.map V.ref) (j:=g.toNat) (v:=.ref qg) (by rw [Qg,hqg]; rfl)
    rwa [hcast] at this
   have hrow:=R.row _ _ _ hqg hr
   have hrow4:=s4 _ _ hrow
   obtain ⟨hRE,hRl⟩:=ER _ _ hr
   rw [hcast] at hRE
   have nqf:qg≠fd0:=fun z=>by rw [z,hfd0] at hrow; cases hrow
   have nqw:qg≠wt:=fun z=>by rw [z,hwt0] at hrow; cases hrow
   have nqr:rp≠qg:=fun z=>by have:=R.lst; rw [z,hrow] at this; cases this
   refine ⟨_,rfl,_,rfl,rp,_,g,_,rfl,rfl,SqL.of R4.lst,hat,qg,r,rfl,hrow4,fun o nf=>?_⟩
   have z5:upd H4 qg (.frz o (.dK r)) qg=some (.frz o (.dK r)):=aB
   have b5:But qg H (upd H4 qg (.frz o (.dK r))):=fun b u nb hb=>by rw [aG nb]; exact s4 _ _ hb
   have e5:upd H4 qg (.frz o (.dK r)) fd0=some (.dK fs):=by rw [aG (Ne.symm nqf)]; exact e4
   have w5:upd H4 qg (.frz o (.dK r)) wt=some (.lst ((os.drop (mm+1)).map V.int)):=by rw [aG (Ne.symm nqw)]; exact w4
   have T5:=T4.tp (Tp.upd (a:=qg) (u:=.frz o (.dK r)) fun xs z=>by rw [hrow4] at z; cases z)
   generalize upd H4 qg (.frz o (.dK r))=H5 at z5 b5 e5 w5 T5 ⊢
   refine wB (a:=qg) (o:=o) (kvs:=r) (fun j σ H6=>∃ (v5:Option V) (fs:List (Key×V)) (os:List Int),σ = [some (.ref rp),some (.int first),some (.ref fd0),some (.ref wt),some (.int g),v5]/\H6 qg=some (.frz o (.dK r))/\But qg H H6/\H6 fd0=some (.dK fs)/\H6 wt=some (.lst ((os.drop (mm+1)).map V.int))/\Tree Ed n first H6 fs os/\mm+1<=os.length/\os[mm]?=some g /\
     (∀ (i:Nat) (g:Int),i < mm->os[i]?=some g->∀ w t,Ed g w t->t∈os)/\∀ (i:Nat) k v t,i < j->r[i]?=some (k,v)->k=.inl t->t∈os)
    ⟨v5,fs,os,rfl,z5,b5,e5,w5,T5,hend,hgm,pr3,fun i k v t hi=>absurd hi (Nat.not_lt_zero _)⟩ (fun j σ H6 _ ⟨_,_,_,_,h,_⟩=>h) ?_ ?_
   ·rintro j ⟨key,val⟩ σ H6 hj ⟨v5,fs,os,rfl,z6,b6,e6,w6,T6,hl6,hg6,pr6,dn6⟩
    -- the key is a hand,its value a work
    obtain ⟨val',hval⟩:∃ v,bY r key=some v:=by
     have:(bY r key).isSome=true:=by
      rw [<- eT,Ju]
      exact ⟨_,Qe hj,by simp⟩
     cases q:bY r key with
     | none=>rw [q] at this; cases this
     | some v=>exact ⟨v,rfl⟩
    obtain ⟨wk,t,rfl,rfl,hE⟩:=hRE.1 _ _ hval
    obtain ⟨ht0,ht1⟩:=hedge _ _ _ hE
    dsimp only [kV]
    have dn:∀ (os':List Int),t∈os'->(∀ x∈os,x∈os')->∀ (i:Nat) k v t',i < j+1->r[i]?=some (k,v)->k=.inl t'->t'∈os':=fun os' h1 h2 i k v t' hi hk he=>by
     by_cases hij:i < j
     ·exact h2 _ (dn6 i k v t' hij hk he)
     ·have:i=j:=by omega
      subst this
      rw [hj] at hk
      cases hk
      have:t=t':=by simpa using he
      rw [<- this]; exact h1
    refine ⟨_,rfl,_,rfl,fd0,_,rfl,pY.k (k:=.inl t) e6,_,rfl,?_⟩
    rw [pF T6.keys]
    by_cases htm:t∈os
    ·rw [decide_eq_true htm]
     refine eF ?_
     exact ⟨_,fs,os,rfl,z6,b6,e6,w6,T6,hl6,hg6,pr6,dn os htm fun _ h=>h⟩
    ·rw [decide_eq_false htm]
     refine iT ?_
     have hR6:H6 rp=some (.lst (qs.map V.ref)):=b6 _ _ nqr R.lst
     refine ⟨_,rfl,_,rfl,rp,_,g,_,rfl,rfl,SqL.of hR6,hat,_,rfl,qg,.int (wk:Nat),rfl,.inl ⟨r,.inl t,.inr ⟨o,z6⟩,rfl,hval.symm⟩,_,rfl,_,rfl,bP (show 3<=1000 by decide),fun p hp=>?_⟩
     have sp:=aC.new (o:=.tup [.int (wk:Nat),.int g,.int t]) hp
     have ep:upd H6 p (.tup [.int (wk:Nat),.int g,.int t]) p=_:=aB
     have b7:But qg H (upd H6 p (.tup [.int (wk:Nat),.int g,.int t])):=b6.trans (But.of sp)
     have z7:=sp _ _ z6
     have e7:=sp _ _ e6
     have w7:=sp _ _ w6
     have T7:=T6.tp (Tp.of sp)
     generalize upd H6 p (.tup [.int (wk:Nat),.int g,.int t])=H7 at sp ep b7 z7 e7 w7 T7 ⊢
     have hv:bY fs (.inl t)=none:=by
      have:=pF T7.keys t
      rw [decide_eq_false htm] at this
      cases q:bY fs (.inl t) with
      | none=>rfl
      | some v=>rw [q] at this; cases this
     have T7l:=T7.len
     have T7f:=T7.flen
     have T8:=T7.grow ep hE hg6 htm ht0 ht1
     have hput:eG fs (.inl t) (.ref p)=fs++[(.inl t,.ref p)]:=vX _ hv
     refine ⟨_,rfl,_,rfl,fd0,_,rfl,pZ.k (k:=.inl t) e7 (by rw [sizeLine_eq]; omega),?_⟩
     rw [hput]
     have b8:But qg H (upd H7 fd0 (.dK (fs++[(.inl t,.ref p)]))):=fun b u nb hb=>by
      rw [aG (fun z=>by rw [z,hfd0] at hb; cases hb)]
      exact b7 b u nb hb
     have z8:upd H7 fd0 (.dK (fs++[(.inl t,.ref p)])) qg=some (.frz o (.dK r)):=by rw [aG nqf]; exact z7
     have e8:upd H7 fd0 (.dK (fs++[(.inl t,.ref p)])) fd0=_:=aB
     have w8:upd H7 fd0 (.dK (fs++[(.inl t,.ref p)])) wt=some (.lst ((os.drop (mm+1)).map V.int)):=by rw [aG (Ne.symm nfw)]; exact w7
     have T8':=T8.tp (Tp.upd (a:=fd0) (u:=.dK (fs++[(.inl t,.ref p)])) fun xs z=>by rw [e7] at z; cases z)
     generalize upd H7 fd0 (.dK (fs++[(.inl t,.ref p)]))=H8 at b8 z8 e8 w8 T8' ⊢
     refine ⟨_,rfl,.inl ⟨rfl,_,SqL.of w8⟩,_,rfl,wt,_,.int t,rfl,rfl,w8,by rw [Qa,Ye,sizeLine_eq]; omega,?_⟩
     have hdr:(os.drop (mm+1)).map V.int++[V.int t]=((os++[t]).drop (mm+1)).map V.int:=by
      rw [List.drop_append_of_le_length hl6,Qp]; rfl
     rw [hdr]
     refine ⟨_,_,os++[t],rfl,by rw [aG nqw]; exact z8,fun b u nb hb=>?_,by rw [aG nfw]; exact e8,aB,T8'.tp (Tp.upd fun xs z=>by rw [w8] at z; cases z),by rw [Qv]; omega,by rw [Jg (by omega)]; exact hg6,fun i g' hi hg' w t' e'=>?_,dn _ (by simp) fun x hx=>Jq _ hx⟩
     ·rw [aG (fun z=>by rw [z,hwt0] at hb; cases hb)]
      exact b8 b u nb hb
     ·rw [Jg (by omega)] at hg'
      exact Jq _ (pr6 i g' hi hg' w t' e')
   ·rintro σ H6 ⟨v5,fs,os,rfl,z6,b6,e6,w6,T6,hl6,hg6,pr6,dn6⟩
    refine ⟨qg,o,r,z6,nf,?_⟩
    have hole:=T6.len
    have s7:aC H (upd H6 qg (.dK r)):=fun b u hb=>by
     by_cases hbq:b=qg
     ·rw [hbq] at hb ⊢
      rw [aB,<- hrow]; exact hb
     ·rw [aG hbq]; exact b6 b u hbq hb
    refine ⟨n.toNat - (mm+1),by omega,_,_,mm+1,fs,os,rfl,rfl,s7,by rw [aG (Ne.symm nqf)]; exact e6,by rw [aG (Ne.symm nqw)]; exact w6,T6.tp (Tp.upd fun xs z=>by rw [z6] at z; cases z),hl6,fun i g' hi hg' w t e=>?_⟩
    by_cases him:i < mm
    ·exact pr6 i g' him hg' w t e
    ·have:i=mm:=by omega
     subst this
     rw [hg6] at hg'
     cases hg'
     have hs:=hRE.2 w t e
     rw [<- eT,Ju] at hs
     obtain ⟨⟨k,v⟩,hk,he⟩:=hs
     obtain ⟨j,hj⟩:=Jv.mp hk
     exact dn6 j k v t (Qd.mp hj).1 hj (by simpa using he)
  ·have hlen:mm=os.length:=by omega
   have hb:(!((os.drop mm).map V.int).isEmpty)=false:=by rw [hlen,List.drop_length]; rfl
   rw [hb]
   refine eF ?_
   refine ⟨_,rfl,k fd0 H3 fs os s3 hfd0 e3 T3 fun g hg w t e=>?_⟩
   obtain ⟨i,hi⟩:=Jv.mp hg
   exact pr3 i g (by have:=(Qd.mp hi).1; omega) hi w t e
structure StepsAt (H:Hp) (ps:List Addr) (ss:List (Nat×Int×Int)):Prop where
 len:ps.length=ss.length
 at_:∀ (i:Nat) p s,ps[i]?=some p->ss[i]?=some s->H p=some (.tup [.int (s.1:Nat),.int s.2.1,.int s.2.2])
theorem StepsAt.nil {H:Hp}:StepsAt H [] []:=⟨rfl,fun i p s h=>by simp at h⟩
theorem StepsAt.cons {H:Hp} {ps:List Addr} {ss:List (Nat×Int×Int)} (h:StepsAt H ps ss) {p:Addr} {w:Nat} {g t:Int} (hp:H p=some (.tup [.int (w:Nat),.int g,.int t])):StepsAt H (p::ps) ((w,g,t)::ss):=by
 refine ⟨by rw [Jh,Jh,h.len],fun i p' s h1 h2=>?_⟩
 cases i with
 | zero =>
  have e1:p=p':=by simpa using h1
  have e2:(w,g,t)=s:=by simpa using h2
  subst e1 e2
  exact hp
 | succ i=>exact h.at_ i p' s (by simpa using h1) (by simpa using h2)
theorem StepsAt.tp {H H':Hp} {ps:List Addr} {ss:List (Nat×Int×Int)} (h:StepsAt H ps ss) (e:Tp H H'):StepsAt H' ps ss:=⟨h.len,fun i p s a b=>e _ _ (h.at_ i p s a b)⟩
def uM (K:PySem.W.Frag):Sp:=fun vs H Q _=>∃ fdp last fs os first n Ed jl,vs = [.ref fdp,.int last]/\H fdp=some (.dK fs)/\Tree Ed n first H fs os/\n<=100/\os[jl]?=some last /\
 ∀ p H' ps ss,aC H H'->H p=none->H' p=some (.lst (ps.map V.ref))->StepsAt H' ps ss->qX Ed first ss last->(vtx first ss).Nodup->(∀ s∈ss,s.2.2∈os)->(0 < jl->ss≠[])->Q (.ref p) H'
theorem pG:FnScope ["found", "last", "some", "step"] ["found", "last"] (aF tY):=⟨rfl,rfl,rfl,by decide +kernel,rfl,by decide +kernel,by decide +kernel⟩
theorem aB3 {f:Addr} {fd:FuncData} (G:Fn K mg "way_to" tY ["found", "last"] f fd) (B:Bl mg):FnOk P w K mg base CX0 1 f fd ["found", "last"] (uM K):=by
 refine G.fn.ok pG (fun vs H Q E h=>?_) (fun cdv A outer s H vs Q E hr h=>?_)
 ·obtain ⟨fdp,last,fs,os,first,n,Ed,jl,rfl,_⟩:=h
  rfl
 ·obtain ⟨fdp,last,fs,os,first,n,Ed,jl,rfl,hfd,T,hn6,hjl,k⟩:=h
  refine ⟨_,(aE (aS (i:=2) pG.nd rfl (Or.inl rfl) (fG aD))
   (aE (aS (i:=3) pG.nd rfl (Or.inl rfl) (kF (kR hr) (pv 0) (pv 1) (fun _ _=>rfl)))
   (aE (jP PassesOwn.never (aAX (aCo (pv 3)))
    (aE (kC (pN PySem.F.plainAttrs_list PySem.F.slot_list_append PySem.F.type_list_append lJ (pv 2) (aA (pv 3) aD)))
    (aI (aS (i:=3) pG.nd rfl (Or.inl rfl) (kF (kR hr) (pv 0) (aY bL (pv 3) aH (fun _ _=>rfl)) (fun _ _=>rfl))))))
   (aI (aT (aCJ (pv 2) (yI tK aH))))))),?_⟩
  have Tl:=T.len
  have hnsz:n.toNat < sizeLine:=by rw [sizeLine_eq]; omega
  refine ⟨bP (show 0<=1000 by decide),fun sm hsm=>?_⟩
  have s1:=aC.new (o:=.lst []) hsm
  have e1:upd H sm (.lst []) sm=some (.lst []):=aB
  generalize upd H sm (.lst [])=H1 at s1 e1 ⊢
  -- what stands at a found hand
  have vals:∀ (j:Nat) (t:Int),os[j]?=some t->∃ v,bY fs (.inl t)=some v/\((j=0/\v=.non)∨∃ p w g i,0 < j/\v=.ref p/\H p=some (.tup [.int (w:Nat),.int g,.int t])/\Ed g w t/\i < j/\os[i]?=some g):=fun j t ht=>by
   by_cases hj:j=0
   ·subst hj
    rw [T.head] at ht
    cases ht
    exact ⟨_,T.v0,.inl ⟨rfl,rfl⟩⟩
   ·obtain ⟨p,w,g,i,a,b,c,d,e⟩:=T.par j t (by omega) ht
    exact ⟨_,a,.inr ⟨p,w,g,i,by omega,rfl,b,c,d,e⟩⟩
  obtain ⟨v0,hv0,_⟩:=vals jl last hjl
  refine ⟨_,rfl,_,rfl,fdp,v0,rfl,.inl ⟨fs,.inl last,.inl (s1 _ _ hfd),rfl,hv0.symm⟩,?_⟩
  refine ⟨fun m σ H2=>∃ (j:Nat) (t:Int) (v:V) (rps:List Addr) (ss:List (Nat×Int×Int)),m=j/\σ = [some (.ref fdp),some (.int last),some (.ref sm),some v]/\os[j]?=some t/\bY fs (.inl t)=some v/\aC H H2/\H2 sm=some (.lst (rps.map V.ref))/\StepsAt H2 rps.reverse ss/\qX Ed t ss last/\(t::ss.map (·.2.2)).Nodup /\
    (∀ x∈ss.map (·.2.2),∃ i:Nat,j < i/\os[i]?=some x)/\rps.length+j<=jl/\(j < jl->ss≠[]),
   ⟨jl,jl,last,v0,[],[],rfl,rfl,hjl,hv0,s1,e1,StepsAt.nil,rfl,by simp,fun x h=>by simp at h,by simp,fun h=>by omega⟩,?_⟩
  rintro j σ H2 ⟨_,t,v,rps,ss,rfl,rfl,hj,hv,s2,e2,S2,P2,N2,I2,L2',L3⟩
  have hjo:jl < os.length:=(Qd.mp hjl).1
  obtain ⟨v',hv',cs⟩:=vals j t hj
  rw [hv] at hv'
  cases hv'
  rcases cs with ⟨rfl,rfl⟩ | ⟨p,w,g,i,hj0,rfl,hp,hE,hij,hg⟩
  ·refine ⟨_,rfl,_,rfl,?_⟩
   refine eF ?_
   rw [T.head] at hj
   cases hj
   refine ⟨_,rfl,_,rfl,rfl,sm,_,rfl,SqL.of e2,fun p hp=>?_⟩
   have s3:=aC.new (o:=.lst (rps.map V.ref).reverse) hp
   refine k p _ rps.reverse ss (s2.trans s3) (s2.free hp) (by rw [aB,Wc]) (S2.tp (Tp.of s3)) P2 N2 (fun x hx=>?_) L3
   obtain ⟨i,_,hi⟩:=I2 _ (Qx.mpr ⟨x,hx,rfl⟩)
   exact Qe hi
  ·refine ⟨_,rfl,_,rfl,?_⟩
   refine iT ?_
   obtain ⟨vg,hvg,_⟩:=vals i g hg
   refine ⟨fun σ' H'=>∃ m',m' < j/\∃ (j:Nat) (t:Int) (v:V) (rps:List Addr) (ss:List (Nat×Int×Int)),m'=j/\σ' = [some (.ref fdp),some (.int last),some (.ref sm),some v]/\os[j]?=some t/\bY fs (.inl t)=some v/\aC H H'/\H' sm=some (.lst (rps.map V.ref))/\StepsAt H' rps.reverse ss/\qX Ed t ss last/\(t::ss.map (·.2.2)).Nodup /\
    (∀ x∈ss.map (·.2.2),∃ i:Nat,j < i/\os[i]?=some x)/\rps.length+j<=jl/\(j < jl->ss≠[]),fun σ' H' z=>z,?_⟩
   have hsz:(rps.map V.ref).length < sizeLine:=by
    rw [Qa]
    exact Zd (Qt (Qt (Xq _ _) L2') (Qt (Zs hjo) Tl)) hnsz
   refine ⟨_,rfl,.inl ⟨rfl,_,SqL.of e2⟩,_,rfl,sm,_,.ref p,rfl,rfl,e2,hsz,?_⟩
   have s3:aC H (upd H2 sm (.lst (rps.map V.ref++[.ref p]))):=s2.wr hsm
   have e3:upd H2 sm (.lst (rps.map V.ref++[.ref p])) sm=_:=aB
   have S3:=S2.tp (Tp.upd (a:=sm) (u:=.lst (rps.map V.ref++[.ref p])) fun xs z=>by rw [e2] at z; cases z)
   generalize upd H2 sm (.lst (rps.map V.ref++[.ref p]))=H3 at s3 e3 S3 ⊢
   have hp3:=s3 _ _ hp
   refine ⟨_,rfl,_,rfl,p,_,1,.int g,rfl,rfl,SqT.of hp3,rfl,fdp,vg,rfl,.inl ⟨fs,.inl g,.inl (s3 _ _ hfd),rfl,hvg.symm⟩,?_⟩
   refine ⟨i,hij,i,g,vg,rps++[p],(w,g,t)::ss,rfl,rfl,hg,hvg,s3,by rw [Qp]; exact e3,?_,⟨rfl,hE,P2⟩,?_,?_,?_,fun _=>by simp⟩
   ·rw [List.reverse_append]
    exact S3.cons hp3
   ·show (g::t::ss.map (·.2.2)).Nodup
    rw [Xi]
    refine ⟨fun hm=>?_,N2⟩
    have inj:∀ i',i < i'->os[i']?=some g->False:=fun i' h1 h2=>by
     have:=(Zz (Qd.mp hg).1 T.nd).mp (hg.trans h2.symm)
     omega
    rcases Ql.mp hm with e | hm
    ·exact inj j hij (by rw [e]; exact hj)
    ·obtain ⟨i',h1,h2⟩:=I2 g hm
     exact inj i' (by omega) h2
   ·intro x hx
    rcases Ql.mp (show x∈t::ss.map (·.2.2) from hx) with rfl | hx
    ·exact ⟨j,hij,hj⟩
    ·obtain ⟨i',h1,h2⟩:=I2 x hx
     exact ⟨i',by omega,h2⟩
   ·rw [Qv]
    show rps.length+1+i<=jl
    omega
def nG (r:List (Key×V)) (n:Int):Prop:=∃ os:List Int,r.map (·.1)=os.map Sum.inl/\os.Nodup/\∀ o∈os,0<=o/\o < n
theorem nG.nil {n:Int}:nG [] n:=⟨[],rfl,Wq,fun _ h=>(Ja h).elim⟩
theorem nG.len {r:List (Key×V)} {n:Int} (h:nG r n):r.length<=n.toNat:=by
 obtain ⟨os,e,nd,rg⟩:=h
 have:=congrArg Yl e
 rw [Qa,Qa] at this
 rw [this]
 exact iP _ _ nd fun x hx=>by have:=rg x hx; omega
theorem nG.key {r:List (Key×V)} {n:Int} (h:nG r n) {k:Key} (hk:(bY r k).isSome=true):∃ t,k=.inl t/\0<=t/\t < n:=by
 obtain ⟨os,e,nd,rg⟩:=h
 rw [<- eT,Ju] at hk
 obtain ⟨kv,h1,h2⟩:=hk
 have h3:kv.1∈r.map (·.1):=Qx.mpr ⟨kv,h1,rfl⟩
 rw [e] at h3
 obtain ⟨o,ho,he⟩:=Qx.mp h3
 exact ⟨o,by rw [<- of_decide_eq_true h2,<- he],rg o ho⟩
theorem nG.put {r:List (Key×V)} {n:Int} (h:nG r n) {t:Int} (v:V) (h0:0<=t) (h1:t < n):nG (eG r (.inl t) v) n:=by
 obtain ⟨os,e,nd,rg⟩:=h
 have mv:=pF e t
 by_cases c:t∈os
 ·refine ⟨os,?_,nd,rg⟩
  have:(eG r (.inl t) v).map (·.1)=r.map (·.1):=by
   unfold eG
   rw [eT,mv,decide_eq_true c,if_pos rfl,Xl]
   refine Zp fun kv _=>?_
   show (if kv.1=Sum.inl t then _ else _:Key×V).1=kv.1
   split
   ·rfl
   ·rfl
  rw [this]; exact e
 ·have hv:bY r (.inl t)=none:=by
   rw [decide_eq_false c] at mv
   cases q:bY r (.inl t) with
   | none=>rfl
   | some v=>rw [q] at mv; cases mv
  refine ⟨os++[t],by rw [vX _ hv,Qp,Qp,e]; rfl,?_,fun o ho=>?_⟩
  ·rw [Yb]
   exact ⟨nd,by simp,fun x hx y hy z=>c (by rw [<- Qs.mp hy,<- z]; exact hx)⟩
  ·rcases Jm.mp ho with h | h
   ·exact rg o h
   ·rw [Qs.mp h]; exact ⟨h0,h1⟩
structure HeldR (r:List (Key×V)) (f:Int->Int) (n:Nat):Prop where
 rn:nG r (n+1)
 val:∀ h v,bY r (.inl h)=some v->v=.int (f h)
 non:∀ h,bY r (.inl h)=none->f h=0
 nob:(bY r (.inl (n:Int))).isSome=true
def uN (hds:List (List (Key×V))) (hl:Nat->Int->Int) (n:Nat):Prop:=∀ w r,hds[w]?=some r->HeldR r (hl w) n
structure LLs (H:Hp) (tp:Addr) (tps:List Addr) (tk:List (List Int)):Prop where
 lst:H tp=some (.lst (tps.map V.ref))
 len:tps.length=tk.length
 row:∀ (w:Nat) q l,tps[w]?=some q->tk[w]?=some l->H q=some (.lst (l.map V.int))
theorem LLs.same {H H':Hp} {tp:Addr} {tps:List Addr} {tk:List (List Int)} (h:LLs H tp tps tk) (s:aC H H'):LLs H' tp tps tk:=⟨s _ _ h.lst,h.len,fun w q l a b=>s _ _ (h.row w q l a b)⟩
theorem LLs.but {H H':Hp} {tp t:Addr} {tps:List Addr} {tk:List (List Int)} (h:LLs H tp tps tk) (s:But t H H') (ht:∀ xs,H t≠some (.lst xs)):LLs H' tp tps tk :=
 ⟨s _ _ (fun z=>ht _ (z ▸ h.lst)) h.lst,h.len,fun w q l a b=>s _ _ (fun z=>ht _ (z ▸ h.row w q l a b)) (h.row w q l a b)⟩
theorem aDf {tk:List (List Int)} {w:Nat} {l:List Int} (h:tk[w]?=some l):lW tk w=l:=by unfold lW; rw [Ji,h]; rfl
def uO (K:PySem.W.Frag):Sp:=fun vs H Q _=>∃ (tp hp:Addr) (tps ds:List Addr) (tk:List (List Int)) (hds:List (List (Key×V))) (hl:Nat->Int->Int) (n:Nat),vs = [.ref tp,.ref hp,.int ((n+1:Nat):Int)]/\LLs H tp tps tk/\Rows H hp ds hds/\hds.length=tk.length/\uN hds hl n/\n < 100/\(∀ w,∀ h∈lW tk w,0<=h/\h < n) /\
 ∀ rp H' qs rs,aC H H'->Rows H' rp qs rs->rs.length=n+1->aDG (EdP tk hl) rs 1000->Q (.ref rp) H'
theorem lU:FnScope ["takers", "held", "many", "rows", "work", "row", "giver", "taker"] ["takers", "held", "many"] (aF qI):=⟨rfl,rfl,rfl,by decide +kernel,rfl,by decide +kernel,by decide +kernel⟩
theorem aB4 {f:Addr} {fd:FuncData} (G:Fn K mg "handing_parts" qI ["takers", "held", "many"] f fd) (B:Bl mg):FnOk P w K mg base CX0 1 f fd ["takers", "held", "many"] (uO K):=by
 refine G.fn.ok lU (fun vs H Q E h=>?_) (fun cdv A outer s H vs Q E hr h=>?_)
 ·obtain ⟨tp,hp,tps,ds,tk,hds,hl,n,rfl,_⟩:=h
  rfl
 ·obtain ⟨tp,hp,tps,ds,tk,hds,hl,n,rfl,L,D,hdl,HO,hn,htk,k⟩:=h
  refine ⟨_,(aE (fM (i:=3) (own:=["hand"]) (fr:=[]) (frn:=[]) (aR (aF qI) ["takers", "held", "many", "rows", "work", "row", "giver", "taker"] rfl rfl (by decide +kernel)) rfl lU.nd rfl rfl rfl (gN rfl B.range (aA (pv 2) aD))
    (fun _ _ _ _=>(aM (i:=0) (show (["hand"]:List Str).Nodup by decide +kernel) rfl (Or.inl rfl))) (fun _ _ _ _=>cI)
    (fun _ _ _ _=>aBs))
  (aE (fE PassesOwn.never rfl (aCG .l rfl B.enumerate (aA (pv 1) aD)) (kD rfl (aV (aM (i:=4) lU.nd rfl (Or.inl rfl)) (aV (aM (i:=5) lU.nd rfl (Or.inl rfl)) eA)))
   (aI (yY (fE PassesOwn.never rfl (tS (pv 5)) (aM (i:=6) lU.nd rfl (Or.inl rfl))
   (aI (cY (aW oM (kF (kR hr) (pv 5) (pv 6) (fun _ _=>rfl)) aH (bJ _))
   (aI (fE PassesOwn.never rfl (cG (aY dG (pv 0) (pv 4) (fun _ _=>rfl))) (aM (i:=7) lU.nd rfl (Or.inl rfl))
   (aI (tR (kR hr) (aY dG (pv 3) (pv 6) (fun _ _=>rfl)) (pv 7) (pv 4) rfl))))
   bO))))))
  (aI (aT (pv 3))))),?_⟩
  refine ⟨_,rfl,_,rfl,by omega,by omega,iV (lo:=0) (n:=(((n+1:Nat):Int)).toNat) (fun σ=>∃ v,σ = [v]) (fun i zs H2=>∃ qs:List Addr,zs=qs.map V.ref/\qs.length=i/\aC H H2/\qs.Nodup/\∀ q∈qs,H q=none/\H2 q=some (.dK [])) ?_ ⟨none,rfl⟩ ⟨[],rfl,rfl,aC.refl H,Wq,fun _ h=>(Ja h).elim⟩ ?_ ?_ ?_⟩
  ·rw [sizeLine_eq]; omega
  ·rintro i zs H2 ⟨qs,rfl,hq,_⟩
   rw [Qa]; omega
  ·rintro i zs σ H2 hi ⟨v,rfl⟩ ⟨qs,rfl,hq,s2,nd,hqs⟩ hz
   refine iY ?_
   intro p hp
   refine ⟨hz,⟨_,rfl⟩,qs++[p],by rw [Qp]; rfl,by rw [Qv,hq]; rfl,s2.trans (aC.new hp),?_,fun q hq'=>?_⟩
   ·rw [Yb]
    refine ⟨nd,by simp,fun x hx y hy e=>?_⟩
    rw [Qs.mp hy] at e
    have:=(hqs x hx).2
    rw [e,hp] at this; cases this
   ·rcases Jm.mp hq' with h | h
    ·exact ⟨(hqs q h).1,(aC.new hp) _ _ (hqs q h).2⟩
    ·rw [Qs.mp h]
     exact ⟨s2.free hp,aB⟩
  ·rintro zs H2 ⟨qs,rfl,hq,s2,nd,hqs⟩ rp hrp
   have eN:(((n+1:Nat):Int)).toNat=n+1:=by omega
   rw [eN] at hq
   have s3:=s2.trans (aC.new (o:=.lst (qs.map V.ref)) hrp)
   have hrp0:H rp=none:=s2.free hrp
   have R3:Rows (upd H2 rp (.lst (qs.map V.ref))) rp qs (List.replicate (n+1) []):=⟨aB,by rw [Xg]; exact hq,nd,fun g q r h1 h2=>by
    rw [Xn] at h2
    split at h2
    ·rw [<- Option.some.inj h2]
     exact (aC.new hrp) _ _ (hqs q (Qe h1)).2
    ·cases h2⟩
   generalize upd H2 rp (.lst (qs.map V.ref))=H3 at s3 R3 ⊢
   have D3:=D.same s3
   refine ⟨_,rfl,hp,_,rfl,SqL.of D3.lst,aBp (K:=K) (k:=.l) (a:=hp) (xs:=ds.map V.ref)
    (fun i σ H4=>(∃ v4 v5 v6 v7,σ = [some (.ref tp),some (.ref hp),some (.int ((n+1:Nat):Int)),some (.ref rp),v4,v5,v6,v7])/\aC H H4/\∃ rs,Rows H4 rp qs rs/\rs.length=n+1/\∀ (g:Nat) r,rs[g]?=some r->nG r n/\oG (fun w t=>w < i/\EdP tk hl g w t) r)
    ⟨⟨_,_,_,_,rfl⟩,s3,_,R3,Xg,fun g r hr=>?_⟩ (fun _ σ H4 _ ⟨_,s4,_⟩=>SqL.of (s4 _ _ D.lst)) ?_ ?_⟩
   ·rw [Xn] at hr
    split at hr
    ·rw [<- Option.some.inj hr]
     exact ⟨nG.nil,oG.nil fun w t h=>by omega⟩
    ·cases hr
   ·rintro i x p σ H4 hx ⟨⟨v4,v5,v6,v7,rfl⟩,s4,rs,R4,hl4,E4⟩ hp'
    rw [Qg] at hx
    obtain ⟨d,hd,rfl⟩:=Jb.mp hx
    have hi:i < hds.length:=by rw [<- D.len]; exact (Qd.mp hd).1
    have hri:hds[i]?=some hds[i]:=Qc hi
    generalize hds[i]=r at hri
    have hrow:=D.row i d r hd hri
    obtain ⟨hrn,hval,hnon,_⟩:=HO i r hri
    have sp:=aC.new (o:=.tup [.int (i:Nat),.ref d]) hp'
    have ep:upd H4 p (.tup [.int (i:Nat),.ref d]) p=some (.tup [.int (i:Nat),.ref d]):=aB
    have s5:=s4.trans sp
    have R5:=R4.same sp
    generalize upd H4 p (.tup [.int (i:Nat),.ref d])=H5 at sp ep s5 R5 ⊢
    refine ⟨p,_,rfl,SqT.of ep,rfl,_,_,rfl,_,_,rfl,rfl,?_⟩
    have hlt:i < tk.length:=by rw [<- hdl]; exact hi
    have hli:tk[i]?=some tk[i]:=Qc hlt
    generalize tk[i]=l at hli
    have etk:=aDf hli
    have hti:i < tps.length:=by rw [L.len]; exact hlt
    have htq:tps[i]?=some tps[i]:=Qc hti
    generalize tps[i]=tq at htq
    have hlq:=L.row i tq l htq hli
    have nd':∀ xs,H d≠some (.lst xs):=fun xs z=>by rw [hrow] at z; cases z
    have nqd:∀ q∈qs,q≠d:=fun q hq z=>by have:=(hqs q hq).1; rw [z,hrow] at this; cases this
    have nrd:rp≠d:=fun z=>by rw [z,hrow] at hrp0; cases hrp0
    refine ⟨_,rfl,d,r,rfl,s5 _ _ hrow,fun o nf=>?_⟩
    have z6:upd H5 d (.frz o (.dK r)) d=some (.frz o (.dK r)):=aB
    have b6:But d H (upd H5 d (.frz o (.dK r))):=fun b u nb hb=>by rw [aG nb]; exact s5 _ _ hb
    have R6:Rows (upd H5 d (.frz o (.dK r))) rp qs rs:=⟨by rw [aG nrd]; exact R5.lst,R5.len,R5.nd,fun g q r' a b=>by rw [aG (nqd q (Qe a))]; exact R5.row g q r' a b⟩
    generalize upd H5 d (.frz o (.dK r))=H6 at z6 b6 R6 ⊢
    refine wB (a:=d) (o:=o) (kvs:=r) (fun j σ H7=>(∃ v6 v7,σ = [some (.ref tp),some (.ref hp),some (.int ((n+1:Nat):Int)),some (.ref rp),some (.int (i:Nat)),some (.ref d),v6,v7])/\H7 d=some (.frz o (.dK r))/\But d H H7/\∃ rs,Rows H7 rp qs rs/\rs.length=n+1/\∀ (g:Nat) r',rs[g]?=some r'->nG r' n/\oG (fun w t=>(w < i/\EdP tk hl g w t)∨(w=i/\0 < hl i g/\t∈l/\∃ (j':Nat) (kv:Key×V),j' < j/\r[j']?=some kv/\kv.1=.inl (g:Int))) r')
     ⟨⟨_,_,rfl⟩,z6,b6,rs,R6,hl4,fun g r' hr'=>⟨(E4 g r' hr').1,(E4 g r' hr').2.congr fun w t=>⟨.inl,fun z=>z.elim id fun ⟨_,_,_,j',_,hj,_⟩=>by omega⟩⟩⟩ (fun j σ H7 _ ⟨_,h,_⟩=>h) ?_ ?_
    ·rintro j ⟨key,val⟩ σ H7 hj ⟨⟨v6,v7,rfl⟩,z7,b7,rs,R7,hl7,E7⟩
     have hsome:(bY r key).isSome=true:=by
      rw [<- eT,Ju]
      exact ⟨_,Qe hj,by simp⟩
     obtain ⟨gv,rfl,hg0,hg1⟩:=hrn.key hsome
     obtain ⟨vv,hvv⟩:∃ v,bY r (.inl gv)=some v:=by
      cases q:bY r (.inl gv) with
      | none=>rw [q] at hsome; cases hsome
      | some v=>exact ⟨v,rfl⟩
     have ev:=hval gv vv hvv
     subst ev
     dsimp only [kV]
     have hcast:((gv.toNat:Nat):Int)=gv:=by omega
     refine ⟨_,rfl,_,rfl,d,.int (hl i gv),rfl,.inl ⟨r,.inl gv,.inr ⟨o,z7⟩,rfl,hvv.symm⟩,_,_,rfl,rfl,_,rfl,?_⟩
     have grow:∀ (g:Nat) (w:Nat) (t:Int),((w < i/\EdP tk hl g w t)∨(w=i/\0 < hl i g/\t∈l/\∃ (j':Nat) (kv:Key×V),j' < j+1/\r[j']?=some kv/\kv.1=.inl (g:Int))) ↔
       (((w < i/\EdP tk hl g w t)∨(w=i/\0 < hl i g/\t∈l/\∃ (j':Nat) (kv:Key×V),j' < j/\r[j']?=some kv/\kv.1=.inl (g:Int)))∨(w=i/\(g:Int)=gv/\0 < hl i gv/\t∈l)):=fun g w t=>by
      constructor
      ·rintro (z | ⟨z1,z2,z3,j',kv,z4,z5,z6⟩)
       ·exact .inl (.inl z)
       ·by_cases c:j' < j
        ·exact .inl (.inr ⟨z1,z2,z3,j',kv,c,z5,z6⟩)
        ·have ej:j'=j:=by omega
         rw [ej,hj] at z5
         have ek:(Sum.inl gv,val)=kv:=Option.some.inj z5
         have eg:gv=(g:Int):=by rw [<- ek] at z6; simpa using z6
         exact .inr ⟨z1,eg.symm,by rw [eg]; exact z2,z3⟩
      ·rintro ((z | ⟨z1,z2,z3,j',kv,z4,z5,z6⟩) | ⟨z1,z2,z3,z4⟩)
       ·exact .inl z
       ·exact .inr ⟨z1,z2,z3,j',kv,by omega,z5,z6⟩
       ·exact .inr ⟨z1,by rw [z2]; exact z3,z4,j,_,by omega,hj,by rw [z2]⟩
     refine iM (fun c=>?_) (fun c=>?_)
     ·have hpos:0 < hl i gv:=of_decide_eq_true c
      have L7:=L.but b7 nd'
      have hlq7:=L7.row i tq l htq hli
      refine ⟨_,rfl,_,rfl,tp,_,_,_,rfl,rfl,SqL.of L7.lst,gC (by rw [Qg,htq]; rfl),tq,rfl,⟨_,SqL.of hlq7⟩,iS (K:=K) (a:=tq) (xs:=l.map V.int) (fun m σ H8=>(∃ v7,σ = [some (.ref tp),some (.ref hp),some (.int ((n+1:Nat):Int)),some (.ref rp),some (.int (i:Nat)),some (.ref d),some (.int gv),v7])/\H8 d=some (.frz o (.dK r))/\But d H H8/\∃ rs,Rows H8 rp qs rs/\rs.length=n+1/\∀ (g:Nat) r',rs[g]?=some r'->nG r' n/\oG (fun w t=>((w < i/\EdP tk hl g w t)∨(w=i/\0 < hl i g/\t∈l/\∃ (j':Nat) (kv:Key×V),j' < j/\r[j']?=some kv/\kv.1=.inl (g:Int)))∨(w=i/\(g:Int)=gv/\t∈l.take m)) r')
       ⟨⟨_,rfl⟩,z7,b7,rs,R7,hl7,fun g r' hr'=>⟨(E7 g r' hr').1,(E7 g r' hr').2.congr fun w t=>⟨.inl,fun z=>z.elim id fun z=>by rw [List.take_zero] at z; exact (Ja z.2.2).elim⟩⟩⟩ (fun _ σ H8 _ ⟨_,_,b8,_⟩=>SqL.of ((L.but b8 nd').row i tq l htq hli)) ?_ ?_⟩
      ·rintro m tv σ H8 htv ⟨⟨v7,rfl⟩,z8,b8,rs,R8,hl8,E8⟩
       obtain ⟨t,ht,rfl⟩:=eQ htv
       obtain ⟨t0,t1⟩:=htk i t (by rw [etk]; exact Qe ht)
       have hgl:gv.toNat < qs.length:=by rw [hq]; omega
       have hqg:qs[gv.toNat]?=some qs[gv.toNat]:=Qc hgl
       generalize qs[gv.toNat]=qg at hqg
       have hrg:rs[gv.toNat]?=some rs[gv.toNat]:=Qc (by rw [hl8]; omega)
       generalize rs[gv.toNat]=rg at hrg
       have hat:atI (qs.map V.ref) gv=some (.ref qg):=by
        have:=gC (xs:=qs.map V.ref) (j:=gv.toNat) (v:=.ref qg) (by rw [Qg,hqg]; rfl)
        rwa [hcast] at this
       have hrow8:=R8.row _ _ _ hqg hrg
       obtain ⟨hN8,hE8⟩:=E8 _ _ hrg
       have hlen8:=hN8.len
       have hqH:=(hqs qg (Qe hqg)).1
       have nqg:=nqd qg (Qe hqg)
       refine ⟨_,rfl,_,rfl,_,rfl,rp,_,gv,_,rfl,rfl,SqL.of R8.lst,hat,_,rfl,qg,_,rfl,pZ.k (k:=.inl t) hrow8 (by rw [sizeLine_eq]; omega),?_⟩
       refine ⟨⟨_,rfl⟩,by rw [aG (Ne.symm nqg)]; exact z8,fun b u nb hb=>by rw [aG (fun z=>by rw [z,hqH] at hb; cases hb)]; exact b8 b u nb hb,rs.set gv.toNat (eG rg (.inl t) (.int (i:Nat))),R8.put hqg hrg,by rw [Xv]; exact hl8,fun g2 r2 hr2=>?_⟩
       rw [Xo] at hr2
       by_cases eg:gv.toNat=g2
       ·rw [if_pos eg,if_pos (by rw [hl8]; omega)] at hr2
        cases hr2
        have eg':((g2:Nat):Int)=gv:=by omega
        refine ⟨hN8.put _ t0 t1,(hE8.put i t).congr fun w t'=>?_⟩
        rw [hcast,eg',bQ ht]
        constructor
        ·rintro ((z | ⟨z1,z2,z3⟩) | ⟨z1,z2⟩)
         ·exact .inl z
         ·exact .inr ⟨z1,rfl,Jq _ z3⟩
         ·exact .inr ⟨z1,rfl,by rw [z2]; simp⟩
        ·rintro (z | ⟨z1,z2,z3⟩)
         ·exact .inl (.inl z)
         ·rcases Jm.mp z3 with z3 | z3
          ·exact .inl (.inr ⟨z1,rfl,z3⟩)
          ·exact .inr ⟨z1,Qs.mp z3⟩
       ·rw [if_neg eg] at hr2
        refine ⟨(E8 _ _ hr2).1,(E8 _ _ hr2).2.congr fun w t'=>?_⟩
        have ng:¬ ((g2:Nat):Int)=gv:=by omega
        exact ⟨fun z=>z.elim .inl fun z=>absurd z.2.1 ng,fun z=>z.elim .inl fun z=>absurd z.2.1 ng⟩
      ·rintro σ H8 ⟨⟨v7,rfl⟩,z8,b8,rs,R8,hl8,E8⟩
       refine ⟨⟨_,_,rfl⟩,z8,b8,rs,R8,hl8,fun g r' hr'=>⟨(E8 g r' hr').1,(E8 g r' hr').2.congr fun w t=>?_⟩⟩
       rw [Qa,Jk,grow]
       exact ⟨fun z=>z.elim .inl fun ⟨a,b,c⟩=>.inr ⟨a,b,hpos,c⟩,fun z=>z.elim .inl fun ⟨a,b,_,c⟩=>.inr ⟨a,b,c⟩⟩
     ·have hpos:¬ 0 < hl i gv:=fun z=>c (decide_eq_true z)
      refine ⟨⟨_,_,rfl⟩,z7,b7,rs,R7,hl7,fun g r' hr'=>⟨(E7 g r' hr').1,(E7 g r' hr').2.congr fun w t=>?_⟩⟩
      rw [grow]
      exact ⟨.inl,fun z=>z.elim id fun z=>absurd z.2.2.1 hpos⟩
    ·rintro σ H7 ⟨⟨v6,v7,rfl⟩,z7,b7,rs,R7,hl7,E7⟩
     refine ⟨d,o,r,z7,nf,?_⟩
     have s8:aC H (upd H7 d (.dK r)):=fun b u hb=>by
      by_cases hbq:b=d
      ·rw [hbq] at hb ⊢
       rw [aB,<- hrow]; exact hb
      ·rw [aG hbq]; exact b7 b u hbq hb
     refine ⟨⟨_,_,_,_,rfl⟩,s8,rs,⟨by rw [aG nrd]; exact R7.lst,R7.len,R7.nd,fun g q r' a b=>by rw [aG (nqd q (Qe a))]; exact R7.row g q r' a b⟩,hl7,fun g r' hr'=>⟨(E7 g r' hr').1,(E7 g r' hr').2.congr fun w t=>?_⟩⟩
     constructor
     ·rintro (⟨z1,z2⟩ | ⟨z1,z2,z3,_⟩)
      ·exact ⟨by omega,z2⟩
      ·rw [z1]; exact ⟨by omega,hlt,z2,by rw [etk]; exact z3⟩
     ·rintro ⟨z1,z2,z3,z4⟩
      by_cases hw:w < i
      ·exact .inl ⟨hw,z2,z3,z4⟩
      ·have ew:w=i:=by omega
       subst ew
       have hs:(bY r (.inl (g:Int))).isSome=true:=by
        cases q:bY r (.inl (g:Int)) with
        | none=>rw [hnon _ q] at z3; omega
        | some v=>rfl
       rw [<- eT,Ju] at hs
       obtain ⟨kv,hk1,hk2⟩:=hs
       obtain ⟨j',hj'⟩:=Jv.mp hk1
       exact .inr ⟨rfl,z3,by rw [etk] at z4; exact z4,j',kv,(Qd.mp hj').1,hj',of_decide_eq_true hk2⟩
   ·rintro σ H4 ⟨⟨v4,v5,v6,v7,rfl⟩,s4,rs,R4,hl4,E4⟩
    refine ⟨_,rfl,k rp H4 qs rs s4 R4 hl4 fun g r hr=>⟨(E4 g r hr).2.congr fun w t=>⟨fun z=>z.2,fun z=>⟨?_,z⟩⟩,?_⟩⟩
    ·rw [Qa,D.len,hdl]; exact z.1
    ·have:=(E4 g r hr).1.len; omega
theorem HeldR.put {r:List (Key×V)} {f:Int->Int} {n:Nat} (h:HeldR r f n) {t:Int} (x:Int) (h0:0<=t) (h1:t<=n):HeldR (eG r (.inl t) (.int x)) (fun h=>if h=t then x else f h) n:=by
 have ne:∀ {h:Int},¬ h=t->¬ (Sum.inl h:Key)=Sum.inl t:=fun c z=>c (by simpa using z)
 refine ⟨h.rn.put _ h0 (by omega),fun h' v hv=>?_,fun h' hv=>?_,?_⟩
 ·rw [iW] at hv
  by_cases c:h'=t
  ·rw [if_pos (by rw [c])] at hv
   rw [if_pos c]
   exact (Option.some.inj hv).symm
  ·rw [if_neg (ne c)] at hv
   rw [if_neg c]
   exact h.val h' v hv
 ·rw [iW] at hv
  by_cases c:h'=t
  ·rw [if_pos (by rw [c])] at hv; cases hv
  ·rw [if_neg (ne c)] at hv
   rw [if_neg c]
   exact h.non h' hv
 ·rw [iW]
  by_cases c:(n:Int)=t
  ·rw [if_pos (by rw [c])]; rfl
  ·rw [if_neg (ne c)]; exact h.nob
theorem HeldR.congr {r:List (Key×V)} {f g:Int->Int} {n:Nat} (h:HeldR r f n) (e:∀ x,f x=g x):HeldR r g n:=⟨h.rn,fun x v q=>by rw [h.val x v q,e],fun x q=>by rw [<- e]; exact h.non x q,h.nob⟩
theorem HeldR.get {r:List (Key×V)} {f:Int->Int} {n:Nat} (h:HeldR r f n) (x:Int):(bY r (.inl x)).getD (.int 0)=.int (f x):=by
 cases q:bY r (.inl x) with
 | none=>rw [h.non x q]; rfl
 | some v=>rw [h.val x v q]; rfl
theorem HeldR.pos {r:List (Key×V)} {f:Int->Int} {n:Nat} (h:HeldR r f n) {x:Int} (hx:f x≠0):bY r (.inl x)=some (.int (f x)):=by
 cases q:bY r (.inl x) with
 | none=>exact absurd (h.non x q) hx
 | some v=>rw [h.val x v q]
theorem HeldR.nobV {r:List (Key×V)} {f:Int->Int} {n:Nat} (h:HeldR r f n):bY r (.inl (n:Int))=some (.int (f n)):=by
 cases q:bY r (.inl (n:Int)) with
 | none=>have:=h.nob; rw [q] at this; cases this
 | some v=>rw [h.val n v q]
def fnL (l:List Int):Nat->Int:=fun w=>l.getD w 0
def fnI (l:List Int):Int->Int:=fun h=>l.getD h.toNat 0
theorem uP {l:List Int} {i:Nat} {x:Int} (h:l[i]?=some x):fnL l i=x:=by unfold fnL; rw [Ji,h]; rfl
theorem aB5 {l:List Int} (h:∀ x∈l,0<=x) (i:Nat):0<=fnL l i:=by
 cases q:l[i]? with
 | none=>unfold fnL; rw [Ji,q]; exact Xf _
 | some x=>rw [uP q]; exact h x (Qe q)
structure SpIn (n:Nat) (tk:List (List Int)) (am rm:List Int) (H H':Hp) (mp hp:Addr) (ds:List Addr) (rl:List Int) (hds:List (List (Key×V))) (hl:Nat->Int->Int) (room:Int->Int):Prop where
 same:aC H H'
 lst:H' mp=some (.lst (rl.map V.int))
 len:rl.length=n+1
 rmv:∀ i:Nat,i < n->rl[i]?=some (room i)
 rn:rl[n]?=some 0
 rows:Rows H' hp ds hds
 hlen:hds.length=tk.length
 held:uN hds hl n
 spr:Spr n tk (fnL am) (fnI rm) hl room
def rF (K:PySem.W.Frag):Sp:=fun vs H Q _=>∃ (tp ap mp:Addr) (tps:List Addr) (tk:List (List Int)) (am rm:List Int) (n:Nat),vs = [.ref tp,.ref ap,.ref mp]/\LLs H tp tps tk/\SqL K H ap (am.map V.int)/\H mp=some (.lst (rm.map V.int))/\am.length=tk.length/\rm.length=n/\n < 100/\tk.length<=100/\(∀ x∈am,0<=x)/\(∀ x∈rm,0<=x)/\(∀ w,∀ h∈lW tk w,0<=h/\h < n)/\aBQ n tk (fnL am) (fnI rm) /\
 ∀ hp ds hds hl H',aC H H'->Rows H' hp ds hds->hds.length=tk.length->uN hds hl n->Sprd n tk (fnL am) (fnI rm) hl->Q (.ref hp) H'
theorem gA:FnScope ["takers", "amounts", "rooms", "nobody", "held", "found", "last", "some", "units", "work", "giver", "taker"] ["takers", "amounts", "rooms"] (aF jH):=⟨rfl,rfl,rfl,by decide +kernel,rfl,by decide +kernel,by decide +kernel⟩
theorem aAH {f fR fW fH:Addr} {fd dR dW dH:FuncData} (G:Fn K mg "spread" jH ["takers", "amounts", "rooms"] f fd) (B:Bl mg) (GR:Fn K mg "reached" mU ["rows", "first"] fR dR) (OR:FnOk P w K mg base CX0 1 fR dR ["rows", "first"] (oH K)) (GWy:Fn K mg "way_to" tY ["found", "last"] fW dW) (OWy:FnOk P w K mg base CX0 1 fW dW ["found", "last"] (uM K)) (GHp:Fn K mg "handing_parts" qI ["takers", "held", "many"] fH dH) (OHp:FnOk P w K mg base CX0 1 fH dH ["takers", "held", "many"] (uO K)):FnOk P w K mg base CX0 2 f fd ["takers", "amounts", "rooms"] (rF K):=by
 refine G.fn.ok gA (fun vs H Q E h=>?_) (fun cdv A outer s H vs Q E hr h=>?_)
 ·obtain ⟨tp,ap,mp,tps,tk,am,rm,n,rfl,_⟩:=h
  rfl
 ·obtain ⟨tp,ap,mp0,tps,tk,am,rm,n,rfl,L,hap,hmp0,hal,hrl,hn,htl,ham,hrm,htk,hall,k⟩:=h
  have r1:Room 1 _:=hr
  refine ⟨_,(aE (aS (i:=3) gA.nd rfl (Or.inr rfl) (aP aU rfl B.len gG (aA (pv 2) aD)))
  (aE (aS (i:=2) gA.nd rfl (Or.inr rfl) (bD pO (pv 2) (fG (aA aH aD))))
  (aE (aS (i:=4) gA.nd rfl (Or.inr rfl) (bR (own:=["amount"]) (fr:=[3]) (frn:=["nobody"]) (aR (aF jH) ["takers", "amounts", "rooms", "nobody", "held", "found", "last", "some", "units", "work", "giver", "taker"] rfl rfl (by decide +kernel)) rfl (cG (pv 1))
    (fun _ _ _ _=>(aM (i:=0) (show (["amount", "nobody"]:List Str).Nodup by decide +kernel) rfl (Or.inl rfl))) (fun _ _ _ _=>cI)
    (fun _ _ _ _=>(wC (pv 1) (pv 0)))))
  (aE (jP PassesOwn.never (eD (aP (vV rfl) rfl B.any aDD (aA (bR (own:=["row"]) (fr:=[3]) (frn:=["nobody"]) (aR (aF jH) ["takers", "amounts", "rooms", "nobody", "held", "found", "last", "some", "units", "work", "giver", "taker"] rfl rfl (by decide +kernel)) rfl (cG (pv 4))
    (fun _ _ _ _=>(aM (i:=0) (show (["row", "nobody"]:List Str).Nodup by decide +kernel) rfl (Or.inl rfl))) (fun _ _ _ _=>cI)
    (fun _ _ _ _=>(jF oM (kF (kR hr) (pv 0) (pv 1) (fun _ _=>rfl)) aH (bJ _)))) aD)))
   (aE (aS (i:=5) gA.nd rfl (Or.inl rfl) (bK GR OR r1 rfl (aA (bK GHp OHp r1 rfl (aA (pv 0) (aA (pv 4) (aA (aP aU rfl B.len gG (aA (pv 2) aD)) aD)))) (aA (pv 3) aD))))
  (aE (aS (i:=6) gA.nd rfl (Or.inl rfl) (aY dG (aBw (own:=["hand"]) (fr:=[2]) (frn:=["rooms"]) (aR (aF jH) ["takers", "amounts", "rooms", "nobody", "held", "found", "last", "some", "units", "work", "giver", "taker"] rfl rfl (by decide +kernel)) rfl (pv 5)
    (fun _ _ _ _=>(aM (i:=0) (show (["hand", "rooms"]:List Str).Nodup by decide +kernel) rfl (Or.inl rfl))) (fun _ _ _ _=>jN (aW oM (aY (pW (K:=K) rfl) (pv 1) (pv 0) (fun _ _=>rfl)) aH (bJ _)))
    (fun _ _ _ _=>(pv 0))) aH (fun _ _=>rfl)))
  (aE (aS (i:=7) gA.nd rfl (Or.inl rfl) (bK GWy OWy r1 rfl (aA (pv 5) (aA (pv 6) aD))))
  (aE (aS (i:=8) gA.nd rfl (Or.inl rfl) (aP (aAm rfl) rfl B.min aDw (aA (bD pO (fG (aA (aY dG (pv 2) (pv 6) (fun _ _=>rfl)) aD)) (bR (own:=["work", "giver", "taker"]) (fr:=[4]) (frn:=["held"]) (aR (aF jH) ["takers", "amounts", "rooms", "nobody", "held", "found", "last", "some", "units", "work", "giver", "taker"] rfl rfl (by decide +kernel)) rfl (cG (pv 7))
    (fun _ _ _ _=>(jJ (K:=K) (n:=3) rfl rfl (aV (aM (i:=0) (show (["work", "giver", "taker", "held"]:List Str).Nodup by decide +kernel) rfl (Or.inl rfl)) (aV (aM (i:=1) (show (["work", "giver", "taker", "held"]:List Str).Nodup by decide +kernel) rfl (Or.inl rfl)) (aV (aM (i:=2) (show (["work", "giver", "taker", "held"]:List Str).Nodup by decide +kernel) rfl (Or.inl rfl)) eA))))) (fun _ _ _ _=>cI)
    (fun _ _ _ _=>(kF (kR hr) (aY (pW (K:=K) rfl) (pv 3) (pv 0) (fun _ _=>rfl)) (pv 1) (fun _ _=>rfl))))) aD)))
  (aE (aCq (pv 2) (pv 6) aBx (pv 8) aDS vI)
  (aI (fE PassesOwn.never rfl (cG (pv 7)) (kD rfl (aV (aM (i:=9) gA.nd rfl (Or.inl rfl)) (aV (aM (i:=10) gA.nd rfl (Or.inl rfl)) (aV (aM (i:=11) gA.nd rfl (Or.inl rfl)) eA))))
   (aE (aCN (kR hr) (aY dG (pv 4) (pv 9) (fun _ _=>rfl)) (pv 10) (pv 8) aDY (by intros; rfl))
  (aI (tR (kR hr) (aY dG (pv 4) (pv 9) (fun _ _=>rfl)) (pv 11) (bD iH (pN PySem.F.plainAttrs_dict PySem.F.slot_dict_get PySem.F.type_dict_get yZ (aY dG (pv 4) (pv 9) (fun _ _=>rfl)) (aA (pv 11) (aA aH aD))) (pv 8)) rfl)))))))))))
  (aI (aT (pv 4))))))),?_⟩
  refine ⟨_,rfl,mp0,_,rfl,.inl (SqL.of hmp0),?_⟩
  have hmlen:(((rm.map V.int).length:Nat):Int)=(n:Int):=by rw [Qa,hrl]
  rw [hmlen]
  dsimp only [dY]
  refine ⟨_,rfl,sz1 _,fun pz hpz=>⟨mp0,pz,_,_,rfl,rfl,(aC.new hpz) _ _ hmp0,aB,bP (by rw [Qa,hrl]; show n+1<=1000; omega),fun mp hmp=>?_⟩⟩
  have s1:=(aC.new (o:=.lst [.int 0]) hpz).trans (aC.new (o:=.lst (rm.map V.int++[.int 0])) hmp)
  have nmp:H mp=none:=(aC.new (o:=.lst [.int 0]) hpz).free hmp
  have em:upd (upd H pz (.lst [.int 0])) mp (.lst (rm.map V.int++[.int 0])) mp=some (.lst ((rm++[0]).map V.int)):=by rw [aB,Qp]; rfl
  generalize upd (upd H pz (.lst [.int 0])) mp (.lst (rm.map V.int++[.int 0]))=H1 at s1 em ⊢
  dsimp only [dY]
  -- held
  refine ⟨_,rfl,ap,rfl,⟨_,s1.seqL hap⟩,eU (K:=K) (a:=ap) (xs:=am.map V.int) (fun σ=>∃ v,σ = [v,some (.int n)]) (fun i zs H2=>∃ qs:List Addr,zs=qs.map V.ref/\qs.length=i/\aC H1 H2/\qs.Nodup/\∀ (j:Nat) q a,qs[j]?=some q->am[j]?=some a->H1 q=none/\H2 q=some (.dK [(.inl (n:Int),.int a)])) (bP (by rw [Qa]; omega)) ⟨none,rfl⟩ ⟨[],rfl,rfl,aC.refl _,Wq,fun j q a h=>by simp at h⟩ ?_ (fun i zs H2 ⟨_,_,_,s2,_⟩=>(s1.trans s2).seqL hap) ?_ ?_⟩
  ·rintro i zs H2 ⟨qs,rfl,hq,_⟩
   rw [Qa]; omega
  ·rintro i zs σ y H2 hy ⟨v,rfl⟩ ⟨qs,rfl,hq,s2,nd,hqs⟩ hz
   obtain ⟨a,ha,rfl⟩:=eQ hy
   refine iY ?_
   intro p hp
   refine ⟨_,rfl,_,rfl,.inl (n:Int),rfl,aB,?_⟩
   rw [yF]
   refine ⟨hz,⟨_,rfl⟩,qs++[p],by rw [Qp]; rfl,by rw [Qv,hq]; rfl,s2.trans (aC.new hp),?_,fun j q a' hj ha'=>?_⟩
   ·rw [Yb]
    refine ⟨nd,by simp,fun x hx y hy e=>?_⟩
    rw [Qs.mp hy] at e
    obtain ⟨j,hj⟩:=Jv.mp hx
    have hjl:=(Qd.mp hj).1
    have hil:=(Qd.mp ha).1
    have:=(hqs j x _ hj (Qc (show j < am.length by omega))).2
    rw [e,hp] at this; cases this
   ·by_cases c:j < qs.length
    ·rw [Jg c] at hj
     obtain ⟨h1,h2⟩:=hqs j q a' hj ha'
     exact ⟨h1,(aC.new hp) _ _ h2⟩
    ·rw [Jn (by omega)] at hj
     have hj2:j - qs.length=0:=by
      have:=(Qd.mp hj).1
      simp at this; omega
     rw [hj2] at hj
     have e1:p=q:=by simpa using hj
     have ej:j=i:=by omega
     rw [ej,ha] at ha'
     have e2:a=a':=Option.some.inj ha'
     rw [<- e1,<- e2]
     exact ⟨s2.free hp,aB⟩
  ·rintro zs H2 ⟨ds,rfl,hdl,s2,dnd,hds0⟩ hp hhp
   rw [Qa] at hdl
   have s3:=s2.trans (aC.new (o:=.lst (ds.map V.ref)) hhp)
   have nhp1:H1 hp=none:=s2.free hhp
   have nhp:H hp=none:=s1.free nhp1
   have nds:∀ d∈ds,H1 d=none:=fun d hd=>by
    obtain ⟨j,hj⟩:=Jv.mp hd
    have hjl:=(Qd.mp hj).1
    exact (hds0 j d _ hj (Qc (show j < am.length by omega))).1
   have n1:mp≠hp:=fun z=>by rw [<- z,em] at nhp1; cases nhp1
   have n2:∀ d∈ds,d≠mp:=fun d hd z=>by have:=nds d hd; rw [z,em] at this; cases this
   have I0:SpIn n tk am rm H (upd H2 hp (.lst (ds.map V.ref))) mp hp ds (rm++[0]) (am.map fun a=>[(.inl (n:Int),.int a)]) (fun w h=>if h=n then fnL am w else 0) (fun h=>fnI rm h):=by
    refine ⟨s1.trans s3,s3 _ _ em,by simp [hrl],fun i hi=>?_,?_,⟨aB,by rw [Qa]; exact hdl,dnd,fun g q r h1 h2=>?_⟩,by rw [Qa]; exact hal,fun w r hr=>?_,aFd (aB5 ham) (fun h=>aB5 hrm _)⟩
    ·rw [Jg (by omega),Qc (show i < rm.length by omega)]
     congr 1
     show _=rm.getD ((i:Int)).toNat 0
     rw [Ji,show ((i:Int)).toNat=i by omega,Qc (show i < rm.length by omega)]
     rfl
    ·rw [Jn (by omega),hrl,Nat.sub_self]; rfl
    ·rw [Qg] at h2
     obtain ⟨a,ha,rfl⟩:=Jb.mp h2
     exact (aC.new hhp) _ _ (hds0 g q a h1 ha).2
    ·rw [Qg] at hr
     obtain ⟨a,ha,rfl⟩:=Jb.mp hr
     have ea:=uP ha
     have hv:∀ h:Int,bY [((Sum.inl (n:Int):Key),V.int a)] (.inl h)=if h=n then some (.int a) else none:=fun h=>by
      by_cases c:h=n
      ·rw [if_pos c]; exact eI (by rw [c])
      ·have nz:¬ (Sum.inl (n:Int):Key)=Sum.inl h:=fun z=>by
        have:(n:Int)=h:=by simpa using z
        exact c this.symm
       rw [if_neg c,eS nz]; rfl
     refine ⟨⟨[(n:Int)],rfl,by simp,fun o ho=>by rw [Qs.mp ho]; omega⟩,fun h v q=>?_,fun h q=>?_,by rw [hv,if_pos rfl]; rfl⟩
     ·rw [hv] at q
      by_cases c:h=n
      ·rw [if_pos c] at q ⊢
       rw [ea]; exact (Option.some.inj q).symm
      ·rw [if_neg c] at q; cases q
     ·rw [hv] at q
      by_cases c:h=n
      ·rw [if_pos c] at q; cases q
      ·rw [if_neg c]
   generalize upd H2 hp (.lst (ds.map V.ref))=H3 at s3 I0 ⊢
   dsimp only [dY]
   have nds0:∀ d∈ds,H d=none:=fun d hd=>s1.free (nds d hd)
   -- the while
   refine ⟨fun m σ H4=>∃ rl hds hl room v5 v6 v7 v8 v9 v10 v11,m=(gU hl tk.length n).toNat/\σ = [some (.ref tp),some (.ref ap),some (.ref mp),some (.int n),some (.ref hp),v5,v6,v7,v8,v9,v10,v11]/\SpIn n tk am rm H H4 mp hp ds rl hds hl room,
    ⟨_,_,_,_,_,none,none,none,none,none,none,none,rfl,rfl,I0⟩,?_⟩
   rintro m σ H4 ⟨rl,hds,hl,room,v5,v6,v7,v8,v9,v10,v11,rfl,rfl,I4⟩
   have hdl2:ds.length=tk.length:=by rw [I4.rows.len,I4.hlen]
   refine ⟨_,rfl,hp,rfl,⟨_,SqL.of I4.rows.lst⟩,mR (K:=K) (a:=hp) (xs:=ds.map V.ref) (vs:=((List.range tk.length).map fun w=>decide (0 < hl w n)).map V.bl) (fun σ=>∃ v,σ = [v,some (.int n)]) (by rw [Qa]; omega) (by simp [hdl2]) (SqL.of I4.rows.lst) ⟨none,rfl⟩ ?_ ?_⟩
   ·rintro i x v σ H5 hx hv ⟨v0,rfl⟩ s5 Q' k'
    rw [Qg] at hx
    obtain ⟨d,hd,rfl⟩:=Jb.mp hx
    have hil:i < tk.length:=by rw [<- hdl2]; exact (Qd.mp hd).1
    rw [Qg,Qg,Zo hil] at hv
    cases hv
    have hih:i < hds.length:=by rw [I4.hlen]; exact hil
    have hri:hds[i]?=some hds[i]:=Qc hih
    generalize hds[i]=r at hri
    have hrow:=s5 _ _ (I4.rows.row i d r hd hri)
    exact ⟨_,rfl,_,rfl,d,.int (hl i n),rfl,.inl ⟨r,.inl n,.inl hrow,rfl,((I4.held i r hri).nobV).symm⟩,_,_,rfl,rfl,k' _ _ ⟨_,rfl⟩ (aC.refl _)⟩
   ·intro H5 s5 pb hpb
    refine ⟨pb,_,rfl,SqL.of aB,_,rfl,?_⟩
    have I6:SpIn n tk am rm H (upd H5 pb (.lst (((List.range tk.length).map fun w=>decide (0 < hl w n)).map V.bl))) mp hp ds rl hds hl room:=by
     have s6:=s5.trans (aC.new (o:=.lst (((List.range tk.length).map fun w=>decide (0 < hl w n)).map V.bl)) hpb)
     exact ⟨I4.same.trans s6,s6 _ _ I4.lst,I4.len,I4.rmv,I4.rn,I4.rows.same s6,I4.hlen,I4.held,I4.spr⟩
    generalize upd H5 pb (.lst (((List.range tk.length).map fun w=>decide (0 < hl w n)).map V.bl))=H6 at I6 ⊢
    refine iM (fun c=>?_) (fun c=>?_)
    ·have hpos:0 < gU hl tk.length n:=by
      obtain ⟨b,hb,hb2⟩:=Ju.mp c
      obtain ⟨w,hw,rfl⟩:=Qx.mp hb
      have h1:hl w n<=gU hl tk.length n:=lR (f:=fun w=>hl w n) (fun v _=>I6.spr.nn v n) hw
      have h2:0 < hl w n:=of_decide_eq_true hb2
      omega
     refine ⟨fun σ' H'=>∃ m',m' < (gU hl tk.length n).toNat/\∃ rl hds hl room v5 v6 v7 v8 v9 v10 v11,m'=(gU hl tk.length n).toNat/\σ' = [some (.ref tp),some (.ref ap),some (.ref mp),some (.int n),some (.ref hp),v5,v6,v7,v8,v9,v10,v11]/\SpIn n tk am rm H H' mp hp ds rl hds hl room,fun σ' H' z=>z,?_⟩
     have L6:=L.same I6.same
     have hroom:∀ h:Int,0<=h->h < n->fnI rl h=room h:=fun h h0 h1=>by
      have:=I6.rmv h.toNat (by omega)
      rw [show ((h.toNat:Nat):Int)=h by omega] at this
      exact uP this
     have hroomn:fnI rl n=0:=by
      have:=uP I6.rn
      show rl.getD ((n:Int)).toNat 0=0
      rw [show ((n:Int)).toNat=n by omega]
      exact this
     have hatR:∀ h:Int,0<=h->h<=n->atI (rl.map V.int) h=some (.int (fnI rl h)):=fun h h0 h1=>by
      have hlt:h.toNat < rl.length:=by rw [I6.len]; omega
      have:=gC (xs:=rl.map V.int) (j:=h.toNat) (v:=.int (fnI rl h)) (by unfold fnI; rw [Qg,Ji,Qc hlt]; rfl)
      rwa [show ((h.toNat:Nat):Int)=h by omega] at this
     -- found
     refine ⟨_,rfl,_,rfl,_,rfl,mp,_,rfl,.inl (SqL.of I6.lst),tp,hp,tps,ds,tk,hds,hl,n,by rw [Qa,I6.len]; rfl,L6,I6.rows,I6.hlen,I6.held,hn,htk,fun rp H7 qs rs s7 R7 hrs E7=>?_⟩
     refine ⟨_,rfl,rp,(n:Int),qs,rs,(n:Int)+1,EdP tk hl,rfl,R7,by rw [hrs]; omega,E7,fun g w t e=>?_,by omega,by omega,by omega,fun fdp H8 fs os s8 hfd e8 T8 C8=>?_⟩
     ·have:=htk w t e.2.2; omega
     dsimp only [dY]
     have s68:=s7.trans s8
     have T8l:=T8.len
     have T8f:=T8.flen
     have nmf:mp≠fdp:=fun z=>by have:=s7 _ _ I6.lst; rw [z,hfd] at this; cases this
     refine ⟨_,rfl,fdp,fs,rfl,e8,fun o=>aAs (a:=fdp) (o:=o) (kvs:=fs) (fun σ=>∃ v,σ = [v,some (.ref mp)]) (fun i zs H9=>H9=upd H8 fdp (.frz o (.dK fs))/\zs=((os.take i).filter fun h=>decide (0 < fnI rl h)).map V.int) (bP (by omega)) ⟨_,rfl⟩ ⟨rfl,rfl⟩ (fun i zs H9 z=>?_) (fun i zs H9 z=>by rw [z.1]; exact aB) ?_ ?_⟩
     ·rw [z.2,Qa]
      exact Qt (Je _ _) (by rw [Jd]; omega)
     ·rintro i zs' σ p H9 hp9 ⟨v,rfl⟩ ⟨rfl,rfl⟩ hsz
      obtain ⟨ov,hov,hpe⟩:∃ ov,os[i]?=some ov/\p.1=.inl ov:=by
       have e:=congrArg (fun l=>l[i]?) T8.keys
       simp only [Qg] at e
       rw [hp9] at e
       cases q:os[i]? with
       | none=>rw [q] at e; cases e
       | some ov=>rw [q] at e; exact ⟨ov,rfl,Option.some.inj e⟩
      have hor:=T8.rng ov (Qe hov)
      rw [hpe]
      refine ⟨_,rfl,_,rfl,mp,_,ov,_,rfl,rfl,SqL.of (by rw [aG nmf]; exact s68 _ _ I6.lst),hatR ov hor.1 (by omega),_,_,rfl,rfl,_,rfl,?_⟩
      rw [bQ hov,Xj,Qp]
      cases hc:decide (0 < fnI rl ov) with
      | true =>
       refine iT ⟨_,rfl,hsz,⟨_,rfl⟩,rfl,?_⟩
       rw [Qw,hc]; rfl
      | false =>
       refine eF ⟨⟨_,rfl⟩,rfl,?_⟩
       rw [Qw,hc]
       show _=_++[]
       rw [Jw]
     ·rintro zs' H9 ⟨rfl,rfl⟩ lp hlp
      rw [T8f,Jk]
      obtain ⟨h1,ho1,h10,h1n,h1r⟩:=aEh I6.spr hall (os:=os) C8 (Qe T8.head) hpos
      generalize hfree:(os.filter fun h=>decide (0 < fnI rl h))=free
      have hmem:∀ h,h∈free↔h∈os/\0 < fnI rl h:=fun h=>by rw [<- hfree,Qr,decide_eq_true_iff]
      have nlf:fdp≠lp:=fun z=>by rw [<- z,aB] at hlp; cases hlp
      have hlp8:H8 lp=none:=by rw [aG (Ne.symm nlf)] at hlp; exact hlp
      have s9:aC H8 (upd (upd (upd H8 fdp (.frz o (.dK fs))) lp (.lst (free.map V.int))) fdp (.dK fs)):=fun b u hb=>by
       by_cases hbf:b=fdp
       ·rw [hbf] at hb ⊢
        rw [aB,<- e8]; exact hb
       ·rw [aG hbf,aG (fun z=>by rw [z,hlp8] at hb; cases hb),aG hbf]
        exact hb
      have el9:upd (upd (upd H8 fdp (.frz o (.dK fs))) lp (.lst (free.map V.int))) fdp (.dK fs) lp=some (.lst (free.map V.int)):=by rw [aG (Ne.symm nlf),aB]
      generalize upd (upd (upd H8 fdp (.frz o (.dK fs))) lp (.lst (free.map V.int))) fdp (.dK fs)=H9 at s9 el9 ⊢
      have e9:=s9 _ _ e8
      have T9:=T8.tp (Tp.of s9)
      cases hfr:free with
      | nil =>
       have:h1∈free:=(hmem h1).mpr ⟨ho1,by rw [hroom h1 h10 h1n]; exact h1r⟩
       rw [hfr] at this; cases this
      | cons last iK =>
       rw [hfr] at el9
       obtain ⟨hlo,hlr⟩:=(hmem last).mp (by rw [hfr]; exact Qk ..)
       have hlrg:=T8.rng last hlo
       have hln:last < n:=by
        have:last≠n:=fun z=>by rw [z,hroomn] at hlr; omega
        omega
       rw [hroom last hlrg.1 hln] at hlr
       obtain ⟨jl,hjl⟩:=Jv.mp hlo
       refine ⟨lp,_,0,.int last,rfl,rfl,SqL.of el9,gC (xs:=(last::iK).map V.int) (j:=0) rfl,?_⟩
       dsimp only [dY]
       refine ⟨_,rfl,_,rfl,fdp,last,fs,os,(n:Int),(n:Int)+1,EdP tk hl,jl,rfl,e9,T9,by omega,hjl,fun sp H10 ps ss s10 hsp e10 S10 P10 N10 _ _=>?_⟩
       dsimp only [dY]
       have s610:=s68.trans (s9.trans s10)
       have hssl:ss.length<=100:=by
        have h1:(vtx (n:Int) ss).length<=n+1:=iP (n+1) _ N10 fun x hx=>by
         rcases Ql.mp hx with rfl | hx
         ·omega
         ·obtain ⟨s,hs,rfl⟩:=Qx.mp hx
          obtain ⟨i,hi⟩:=Jv.mp hs
          have:=htk _ _ ((kO P10).1 i s hi).2.1.2.2
          omega
        unfold vtx at h1
        rw [Jh,Qa] at h1
        omega
       have hpl:=S10.len
       -- units
       refine ⟨_,rfl,_,rfl,mp,_,last,_,rfl,rfl,SqL.of (s610 _ _ I6.lst),hatR last hlrg.1 (by omega),sz1 _,fun pl hpl0=>?_⟩
       rw [hroom last hlrg.1 hln]
       have sA:=aC.new (o:=.lst [.int (room last)]) hpl0
       refine ⟨_,rfl,sp,rfl,⟨_,SqL.of (sA _ _ e10)⟩,mR (K:=K) (a:=sp) (xs:=ps.map V.ref) (vs:=(ss.map fun s=>hl s.1 s.2.1).map V.int) (fun σ=>∃ x y z,σ = [x,y,z,some (.ref hp)]) (by rw [Qa]; omega) (by simp [hpl]) (SqL.of (sA _ _ e10)) ⟨none,none,none,rfl⟩ ?_ ?_⟩
       ·rintro i x v σ H11 hx hv ⟨x1,x2,x3,rfl⟩ s11 Q' k'
        rw [Qg] at hx
        obtain ⟨q,hq,rfl⟩:=Jb.mp hx
        have hsi:i < ss.length:=by rw [<- hpl]; exact (Qd.mp hq).1
        have hs:=Qc hsi
        generalize ss[i]=st at hs
        rw [Qg,Qg,hs] at hv
        cases hv
        have s611:=s610.trans (sA.trans s11)
        obtain ⟨_,⟨hw,hg,ht⟩,_⟩:=(kO P10).1 i st hs
        have hqt:=(sA.trans s11) _ _ (S10.at_ i q st hq hs)
        have hwd:st.1 < ds.length:=by rw [hdl2]; exact hw
        have hd:=Qc hwd
        generalize ds[st.1]=d at hd
        have hwh:st.1 < hds.length:=by rw [I6.hlen]; exact hw
        have hr:=Qc hwh
        generalize hds[st.1]=r at hr
        have hrow:=s611 _ _ (I6.rows.row _ d r hd hr)
        refine ⟨q,_,rfl,SqT.of hqt,rfl,_,_,rfl,_,_,rfl,_,_,rfl,rfl,?_⟩
        exact ⟨_,rfl,_,rfl,hp,_,_,_,rfl,rfl,SqL.of (s611 _ _ I6.rows.lst),gC (by rw [Qg,hd]; rfl),_,rfl,d,.int (hl st.1 st.2.1),rfl,.inl ⟨r,.inl st.2.1,.inl hrow,rfl,((I6.held _ r hr).pos (by omega)).symm⟩,k' _ _ ⟨_,_,_,rfl⟩ (aC.refl _)⟩
       ·intro H11 s11 pc hpc
        have sB:=s11.trans (aC.new (o:=.lst ((ss.map fun s=>hl s.1 s.2.1).map V.int)) hpc)
        refine ⟨pl,pc,_,_,rfl,rfl,sB _ _ aB,aB,bP (by simp; omega),fun pm hpm=>?_⟩
        have sC:=sA.trans (sB.trans (aC.new (o:=.lst ([.int (room last)]++(ss.map fun s=>hl s.1 s.2.1).map V.int)) hpm))
        have hpmE:upd (upd H11 pc (.lst ((ss.map fun s=>hl s.1 s.2.1).map V.int))) pm (.lst ([.int (room last)]++(ss.map fun s=>hl s.1 s.2.1).map V.int)) pm=some (.lst ((room last::ss.map fun s=>hl s.1 s.2.1).map V.int)):=aB
        generalize upd (upd H11 pc (.lst ((ss.map fun s=>hl s.1 s.2.1).map V.int))) pm (.lst ([.int (room last)]++(ss.map fun s=>hl s.1 s.2.1).map V.int))=H12 at sC hpmE ⊢
        refine ⟨pm,_,rfl,SqL.of hpmE,by simp,fun u hu1 hu2=>?_⟩
        dsimp only [dY]
        have u1:u<=room last:=hu2 _ (Qk ..)
        have u2:∀ s∈ss,u<=hl s.1 s.2.1:=fun s hs=>hu2 _ (Qq _ (Qx.mpr ⟨s,hs,rfl⟩))
        have u0:0 < u:=by
         rcases Ql.mp hu1 with rfl | hu1
         ·exact hlr
         ·obtain ⟨s,hs,rfl⟩:=Qx.mp hu1
          obtain ⟨i,hi⟩:=Jv.mp hs
          exact ((kO P10).1 i s hi).2.1.2.1
        have s612:=s610.trans sC
        have em12:=s612 _ _ I6.lst
        have hltl:last.toNat < rl.length:=by rw [I6.len]; omega
        have hgl:(rl.map V.int)[last.toNat]?=some (.int (room last)):=by
         rw [Qg,I6.rmv last.toNat (by omega),show ((last.toNat:Nat):Int)=last by omega]; rfl
        refine ⟨_,rfl,_,rfl,mp,_,last,_,rfl,rfl,SqL.of em12,hlrg.1,hgl,_,rfl,_,_,rfl,rfl,mp,_,last,last.toNat,rfl,rfl,em12,aEn hlrg.1 (by rw [Qa,I6.len]; omega),?_⟩
        have eset:(rl.map V.int).set last.toNat (.int (room last - u))=(rl.set last.toNat (room last - u)).map V.int:=List.map_set.symm
        rw [eset]
        have nmp6:H mp=none:=nmp
        have s13:aC H (upd H12 mp (.lst ((rl.set last.toNat (room last - u)).map V.int))):=(I6.same.trans s612).wr nmp
        have em13:upd H12 mp (.lst ((rl.set last.toNat (room last - u)).map V.int)) mp=_:=aB
        have b13:But mp H12 (upd H12 mp (.lst ((rl.set last.toNat (room last - u)).map V.int))):=But.at
        have R12:=I6.rows.same s612
        have R13:Rows (upd H12 mp (.lst ((rl.set last.toNat (room last - u)).map V.int))) hp ds hds:=⟨(aG (Ne.symm n1)).trans R12.lst,R12.len,R12.nd,fun g q r a b=>(aG (n2 q (Qe a))).trans (R12.row g q r a b)⟩
        have nsm:sp≠mp:=fun z=>by have:=(s68.trans s9) _ _ I6.lst; rw [<- z,hsp] at this; cases this
        have es13:upd H12 mp (.lst ((rl.set last.toNat (room last - u)).map V.int)) sp=some (.lst (ps.map V.ref)):=(aG nsm).trans (sC _ _ e10)
        have S13:StepsAt (upd H12 mp (.lst ((rl.set last.toNat (room last - u)).map V.int))) ps ss:=(S10.tp (Tp.of sC)).tp (Tp.upd fun xs z=>by rw [em12] at z; cases z)
        generalize upd H12 mp (.lst ((rl.set last.toNat (room last - u)).map V.int))=H13 at s13 em13 R13 es13 S13 ⊢
        -- the steps
        refine ⟨_,rfl,sp,rfl,⟨_,SqL.of es13⟩,iS (K:=K) (a:=sp) (xs:=ps.map V.ref) (fun i σ H14=>∃ v9 v10 v11 hds' hl',σ = [some (.ref tp),some (.ref ap),some (.ref mp),some (.int n),some (.ref hp),some (.ref fdp),some (.int last),some (.ref sp),some (.int u),v9,v10,v11]/\aC H H14/\H14 mp=some (.lst ((rl.set last.toNat (room last - u)).map V.int))/\Rows H14 hp ds hds'/\hds'.length=tk.length/\uN hds' hl' n/\Gone n tk (fnL am) hl ss u i hl'/\H14 sp=some (.lst (ps.map V.ref))/\StepsAt H14 ps ss) ⟨_,_,_,hds,hl,rfl,s13,em13,R13,I6.hlen,I6.held,aEk I6.spr,es13,S13⟩ (fun i σ H14 _ ⟨_,_,_,_,_,_,_,_,_,_,_,_,h,_⟩=>SqL.of h) ?_ ?_⟩
        ·rintro i x σ H14 hx ⟨v9,v10,v11,hds',hl',rfl,s14,em14,R14,hl14,HO14,G14,es14,S14⟩
         rw [Qg] at hx
         obtain ⟨q,hq,rfl⟩:=Jb.mp hx
         have hsi:i < ss.length:=by rw [<- hpl]; exact (Qd.mp hq).1
         have hs:=Qc hsi
         generalize ss[i]=st at hs
         obtain ⟨wk,g,tt⟩:=st
         obtain ⟨_,⟨hw,hg,ht⟩,_⟩:=(kO P10).1 i _ hs
         obtain ⟨G15,ug,gt⟩:=aAx G14 P10 N10 hs (Zh u0) u2 htk
         have hqt:=S14.at_ i q _ hq hs
         have hwd:wk < ds.length:=by rw [hdl2]; exact hw
         have hd:=Qc hwd
         generalize ds[wk]=d at hd
         have hwh:wk < hds'.length:=by rw [hl14]; exact hw
         have hr:=Qc hwh
         generalize hds'[wk]=r at hr
         have hrow:=R14.row _ d r hd hr
         have HR:=HO14 _ r hr
         have hdm:=Qe hd
         have ndm:=n2 d hdm
         have ndH:=nds0 d hdm
         have nds':sp≠d:=fun z=>by rw [z,hrow] at es14; cases es14
         obtain ⟨tt0,tt1⟩:=htk wk tt ht
         have gpos:0 < hl' wk g:=by omega
         have gr:0<=g/\g<=n:=by
          rcases G14.sup wk g hw gpos with z | z
          ·omega
          ·have:=htk wk g z; omega
         have hrl:=HR.rn.len
         refine ⟨q,_,rfl,SqT.of hqt,rfl,_,_,rfl,_,_,rfl,_,_,rfl,rfl,?_⟩
         have hat:atI (ds.map V.ref) (wk:Int)=some (.ref d):=gC (by rw [Qg,hd]; rfl)
         refine ⟨_,rfl,_,rfl,hp,_,_,_,rfl,rfl,SqL.of R14.lst,hat,_,rfl,d,.int (hl' wk g),rfl,.inl ⟨r,.inl g,.inl hrow,rfl,(HR.pos (by omega)).symm⟩,_,rfl,_,_,rfl,rfl,_,pZ.k (k:=.inl g) hrow (by rw [sizeLine_eq]; omega),?_⟩
         have HR2:=HR.put (t:=g) (hl' wk g - u) gr.1 gr.2
         have R15:=R14.put (r':=eG r (.inl g) (.int (hl' wk g - u))) hd hr
         have s15:=s14.wr (u:=.dK (eG r (.inl g) (.int (hl' wk g - u)))) ndH
         have em15:upd H14 d (.dK (eG r (.inl g) (.int (hl' wk g - u)))) mp=_:=(aG (Ne.symm ndm)).trans em14
         have es15:upd H14 d (.dK (eG r (.inl g) (.int (hl' wk g - u)))) sp=_:=(aG nds').trans es14
         have S15:=S14.tp (Tp.upd (a:=d) (u:=.dK (eG r (.inl g) (.int (hl' wk g - u)))) fun xs z=>by rw [hrow] at z; cases z)
         have hrow15:upd H14 d (.dK (eG r (.inl g) (.int (hl' wk g - u)))) d=some (.dK (eG r (.inl g) (.int (hl' wk g - u)))):=aB
         have hrl2:=HR2.rn.len
         generalize hr2:eG r (.inl g) (.int (hl' wk g - u))=r2 at HR2 R15 s15 em15 es15 S15 hrow15 hrl2 ⊢
         generalize upd H14 d (.dK r2)=H15 at R15 s15 em15 es15 S15 hrow15 ⊢
         have hr2:(hds'.set wk r2)[wk]?=some r2:=by rw [Xo,if_pos rfl,if_pos hwh]
         refine ⟨_,rfl,_,rfl,hp,_,_,_,rfl,rfl,SqL.of R15.lst,hat,.inr (.inr (.inl ⟨rfl,.inl ⟨_,hrow15⟩⟩)),_,rfl,d,r2,.inl tt,.int 0,rfl,rfl,.inl hrow15,?_⟩
         rw [HR2.get tt]
         refine ⟨_,rfl,_,_,rfl,rfl,_,rfl,_,rfl,hp,_,_,_,rfl,rfl,SqL.of R15.lst,hat,_,rfl,d,_,rfl,pZ.k (k:=.inl tt) hrow15 (by rw [sizeLine_eq]; omega),?_⟩
         have HR3:=HR2.put (t:=tt) ((if tt=g then hl' wk g - u else hl' wk tt)+u) tt0 (by omega)
         have R16:=R15.put (r':=eG r2 (.inl tt) (.int ((if tt=g then hl' wk g - u else hl' wk tt)+u))) hd hr2
         refine ⟨_,_,_,(hds'.set wk r2).set wk (eG r2 (.inl tt) (.int ((if tt=g then hl' wk g - u else hl' wk tt)+u))),mvP hl' wk g tt u,rfl,s15.wr ndH,(aG (Ne.symm ndm)).trans em15,R16,by rw [Xv,Xv]; exact hl14,fun v r' hr'=>?_,G15,(aG nds').trans es15,S15.tp (Tp.upd fun xs z=>by rw [hrow15] at z; cases z)⟩
         rw [Xo,Xo,Xv] at hr'
         by_cases cv:wk=v
         ·rw [if_pos cv,if_pos hwh] at hr'
          rw [<- Option.some.inj hr',<- cv]
          refine HR3.congr fun x=>?_
          unfold mvP
          rw [if_pos rfl,if_neg (Ne.symm gt)]
          by_cases c1:x=tt
          ·rw [if_pos c1,if_pos c1,if_neg (fun z=>gt (by rw [<- z,c1])),c1]; omega
          ·rw [if_neg c1,if_neg c1]
           by_cases c2:x=g
           ·rw [if_pos c2,if_pos c2,c2]; omega
           ·rw [if_neg c2,if_neg c2]; omega
         ·rw [if_neg cv,if_neg cv] at hr'
          refine (HO14 v r' hr').congr fun x=>?_
          unfold mvP
          rw [if_neg (Ne.symm cv)]
        ·rintro σ H14 ⟨v9,v10,v11,hds',hl',rfl,s14,em14,R14,hl14,HO14,G14,es14,S14⟩
         rw [Qa,hpl] at G14
         obtain ⟨S',hcol⟩:=aBR I6.spr G14 P10 hln u1
         refine ⟨_,?_,_,hds',hl',_,_,_,_,_,_,_,_,rfl,rfl,s14,em14,by rw [Xv]; exact I6.len,fun i hi=>?_,?_,R14,hl14,HO14,S'⟩
         ·rw [hcol]; omega
         ·rw [Xo]
          by_cases cl:last.toNat=i
          ·rw [if_pos cl,if_pos hltl,if_pos (by omega),show ((i:Nat):Int)=last by omega]
          ·rw [if_neg cl,if_neg (by omega)]
           exact I6.rmv i hi
         ·rw [Xo,if_neg (by omega)]
          exact I6.rn
    ·have hz:gU hl tk.length n<=0:=by
      have:∀ w∈List.range tk.length,hl w n=0:=fun w hw=>by
       have h0:=I6.spr.nn w n
       by_cases p:0 < hl w n
       ·exact absurd (Ju.mpr ⟨true,Qx.mpr ⟨w,hw,decide_eq_true p⟩,rfl⟩) c
       ·omega
      unfold gU
      rw [fU this]
      exact Xf _
     exact ⟨_,rfl,k hp ds hds hl H6 I6.same I6.rows I6.hlen I6.held (aC2 I6.spr hz)⟩
def aDg:Scope:=match (gK kH).getD 0 (.Pass ⟨0,0,0,0⟩) with
 | .Return (some (.ListComp _ _ sc _)) _=>sc
 | _=>{ kind:=.function,names:=[],isGenerator:=false,isCoroutine:=false }
theorem aAI {X:Cx} {K:PySem.W.Frag} (hK:X.K=K) (hc:X.calm=true):eY X (.builtin "any") (fun xs H Q=>∃ (p:Addr) (bs:List Bool),xs = [.ref p]/\SqL K H p (bs.map V.bl)/\Q (.bl (bs.any id)) H):=by subst hK; exact vV hc
def lsF (ls:List (Int×Int)) (h:Int):Int×Int:=ls.getD h.toNat (0,1)
theorem aB6 {K:PySem.W.Frag} {H:Hp} {ls:List (Int×Int)} {us:List V} (hd:aO K H (ls.map eM) us) {h:Int} (h0:0<=h) (h1:h < ls.length):∃ p,atI us h=some (.ref p)/\SqT K H p [.int (lsF ls h).1,.int (lsF ls h).2]/\lsF ls h∈ls:=by
 have hl:=aK hd
 rw [Qa] at hl
 have hlt:h.toNat < us.length:=by omega
 have hu:=Qc hlt
 generalize us[h.toNat]=u at hu
 obtain ⟨x,hx,hxd⟩:=bM hd hu
 obtain ⟨p,rfl,hp⟩:=fX.mp hxd
 have e:lsF ls h=x:=by unfold lsF; rw [Ji,hx]; rfl
 have:=gC hu
 rw [show ((h.toNat:Nat):Int)=h by omega] at this
 rw [e]
 exact ⟨p,this,hp,Qe hx⟩
theorem xA:∀ {bs:bA} {left:List Int} {rows:bA},cU left rows->bX left rows bs->∀ (i j:Nat) b c,i < j->bs[i]?=some b->bs[j]?=some c->∀ h∈b.1,h∉c.1
 | [],_,_,_,_,i,j,b,c,_,h,_=>by simp at h
 | d::bs,left,rows,ok,hb,i,j,b,c,hij,hi,hj=>by
  cases j with
  | zero=>omega
  | succ j =>
   cases i with
   | zero =>
    have e:d=b:=by simpa using hi
    subst e
    intro h hh hc
    have:=(lT ok.redu hb.2 c (Qe (by simpa using hj))).2.2.2 h hc
    have:=(Qr.mp this).2
    rw [bH.mpr hh] at this
    cases this
   | succ i=>exact xA ok.redu hb.2 i j b c (by omega) (by simpa using hi) (by simpa using hj)
def rG (K:PySem.W.Frag):Sp:=fun vs H Q _=>∃ (ap lp:Addr) (l:List Int) (us:List V) (ls:List (Int×Int)),vs = [.ref ap,.ref lp]/\SqT K H ap (l.map V.int)/\SqT K H lp us/\aO K H (ls.map eM) us/\(∀ x∈ls,aC6 x)/\l.length<=1000/\(∀ h∈l,0<=h/\h < ls.length) /\
 ∀ p H',aC H H'->H p=none->H' p=some (.lst ((cV (lsF ls) l).map V.int))->Q (.ref p) H'
theorem aB7:FnScope ["able", "loads"] ["able", "loads"] (aF kH):=⟨rfl,rfl,rfl,by decide +kernel,rfl,by decide +kernel,by decide +kernel⟩
theorem aAJ {f fS:Addr} {fd dS:FuncData} (G:Fn K mg "least_loaded" kH ["able", "loads"] f fd) (B:Bl mg) (GS:Fn K mg "is_less" zD ["one", "other"] fS dS) (OS:FnOk P w K mg base CX0 1 fS dS ["one", "other"] (xW K)):FnOk P w K mg base CX0 2 f fd ["able", "loads"] (rG K):=by
 refine G.fn.ok aB7 (fun vs H Q E h=>?_) (fun cdv A outer s H vs Q E hr h=>?_)
 ·obtain ⟨ap,lp,l,us,ls,rfl,_⟩:=h
  rfl
 ·obtain ⟨ap,lp,l,us,ls,rfl,hap,hlp,hd,hok,h1000,hrg,k⟩:=h
  have r1:Room 1 _:=hr
  refine ⟨_,(aI (aT (aBm (z0 := "hand") (own:=["hand"]) (fr:=[0,1]) (frn:=["able", "loads"]) (pV (aF kH) ["able", "loads"] rfl rfl (fun _ _=>rfl) (fun _=>rfl) (by decide +kernel)) rfl (gM (pv 0))
    (fun _ _ _ _=>(aM (i:=0) (show (["hand", "able", "loads"]:List Str).Nodup by decide +kernel) rfl (Or.inr rfl))) (fun _ _ _ _=>jN (eZ (eD (aP (aAI (K:=K) rfl rfl) rfl B.any aDD (aA (bR (own:=["other"]) (fr:=[0,2]) (frn:=["hand", "loads"]) (aR (aBn aDg (aF kH)) ["hand", "able", "loads"] rfl rfl (by decide +kernel)) rfl (nD (K:=K) rfl (pv 1))
    (fun _ _ _ _=>(aM (i:=0) (show (["other", "hand", "loads"]:List Str).Nodup by decide +kernel) rfl (Or.inl rfl))) (fun _ _ _ _=>cI)
    (fun _ _ _ _=>(bK GS OS r1 rfl (aA (aY (jK (K:=K) rfl) (pv 2) (pv 0) (fun _ _=>rfl)) (aA (aY (jK (K:=K) rfl) (pv 2) (pv 1) (fun _ _=>rfl)) aD))))) aD)))))
    (fun _ _ _ _=>(pv 0))))),?_⟩
  refine ⟨_,rfl,ap,rfl,⟨_,hap⟩,iB (K:=K) (a:=ap) (xs:=l.map V.int) (fun σ=>∃ v,σ = [v,some (.ref ap),some (.ref lp)]) (fun i ys H1=>aC H H1/\ys=((l.take i).filter fun h=>!(l.any fun o=>jL (lsF ls o) (lsF ls h))).map V.int) (bP (by rw [Qa]; exact h1000)) ⟨none,rfl⟩ ⟨aC.refl _,rfl⟩ ?_ (fun i ys H1 ⟨s1,_⟩=>s1.seqT hap) ?_ ?_⟩
  ·rintro i ys H1 ⟨_,rfl⟩
   rw [Qa]
   exact Qt (Je _ _) (by rw [Jd]; exact Jt _ _)
  ·rintro i ys σ y H1 hy ⟨v,rfl⟩ ⟨s1,rfl⟩ hz
   obtain ⟨h,hh,rfl⟩:=eQ hy
   obtain ⟨h0,h1⟩:=hrg h (Qe hh)
   refine ⟨_,rfl,ap,rfl,⟨_,s1.seqT hap⟩,gO (K:=K) (a:=ap) (xs:=l.map V.int) (vs:=(l.map fun o=>jL (lsF ls o) (lsF ls h)).map V.bl) (fun σ=>∃ v,σ = [v,some (.int h),some (.ref lp)]) (by rw [Qa]; exact h1000) (by simp) (s1.seqT hap) ⟨none,rfl⟩ ?_ ?_⟩
   ·rintro j u v σ H2 hu hv ⟨v0,rfl⟩ s2 Q' k'
    obtain ⟨o,ho,rfl⟩:=eQ hu
    rw [Qg,Qg,ho] at hv
    cases hv
    have s12:=s1.trans s2
    obtain ⟨o0,o1⟩:=hrg o (Qe ho)
    have hd2:=s12.denAll _ _ hd
    obtain ⟨po,a1,a2,a3⟩:=aB6 hd2 o0 o1
    obtain ⟨ph,b1,b2,b3⟩:=aB6 hd2 h0 h1
    exact ⟨_,rfl,_,rfl,lp,_,o,_,rfl,rfl,s12.seqT hlp,a1,_,rfl,_,rfl,lp,_,h,_,rfl,rfl,s12.seqT hlp,b1,po,ph,_,_,_,_,rfl,uH a2 (hok _ a3),uH b2 (hok _ b3),k' _ _ ⟨_,rfl⟩ (aC.refl _)⟩
   ·intro H2 s2 pb hpb
    refine ⟨pb,_,rfl,SqL.of aB,_,rfl,?_⟩
    have e:(l.map fun o=>jL (lsF ls o) (lsF ls h)).any id=l.any fun o=>jL (lsF ls o) (lsF ls h):=by rw [Yt]; rfl
    rw [e,bQ hh,Xj,Qp]
    have s3:=s1.trans (s2.trans (aC.new (o:=.lst ((l.map fun o=>jL (lsF ls o) (lsF ls h)).map V.bl)) hpb))
    cases hc:l.any fun o=>jL (lsF ls o) (lsF ls h) with
    | false =>
     refine iT ⟨_,rfl,hz,⟨_,rfl⟩,s3,?_⟩
     rw [Qw,hc]; rfl
    | true =>
     refine eF ⟨⟨_,rfl⟩,s3,?_⟩
     rw [Qw,hc]
     show _=_++[]
     rw [Jw]
  ·rintro ys H1 ⟨s1,rfl⟩ p hp
   rw [Qa,Jk]
   exact k p _ (s1.trans (aC.new hp)) (s1.free hp) aB
def ldL (n:Int) (bs:bA):List (Int×Int):=(aQ n.toNat).map fun h=>bU (eL bs h)
def uQ (K:PySem.W.Frag):Sp:=fun vs H Q _=>∃ (x:V) (n:Int) (ws:List (List Int)) (wp:Addr) (wt:List Int),vs = [x,.ref wp]/\Den K H (dZ n ws) x/\dE (dZ n ws)=true/\SqT K H wp (wt.map V.int)/\oF ws wt /\
 ∀ p us bs H',aC H H'->SqT K H' p us->aO K H' ((ldL n bs).map eM) us->bX (aQ n.toNat) (ws.zip wt) bs->Q (.ref p) H'
theorem zR:FnScope ["book", "weights", "load_of"] ["book", "weights"] (aF nY):=⟨rfl,rfl,rfl,by decide +kernel,rfl,by decide +kernel,by decide +kernel⟩
theorem aB8 {f fB:Addr} {fd dB:FuncData} (G:Fn K mg "part_loads" nY ["book", "weights"] f fd) (B:Bl mg) (GBl:Fn K mg "blocks" gQ ["book", "weights"] fB dB) (OBl:FnOk P w K mg base CX0 7 fB dB ["book", "weights"] (lG K)):FnOk P w K mg base CX0 8 f fd ["book", "weights"] (uQ K):=by
 refine G.fn.ok zR (fun vs H Q E h=>?_) (fun cdv A outer s H vs Q E hr h=>?_)
 ·obtain ⟨x,n,ws,wp,wt,rfl,_⟩:=h
  rfl
 ·obtain ⟨x,n,ws,wp,wt,rfl,hx,hbk,hwp,hwt,k⟩:=h
  have r7:Room 7 _:=hr
  refine ⟨_,(aE (aS (i:=2) zR.nd rfl (Or.inr rfl) (aAt (own:=["some", "load", "hand"]) (fr:=[]) (frn:=[]) (aR (aF nY) ["book", "weights", "load_of"] rfl rfl (by decide +kernel)) rfl (cG (bK GBl OBl r7 rfl (aA (pv 0) (aA (pv 1) aD))))
    (fun _ _ _ _=>(jJ (K:=K) (n:=2) rfl rfl (aV (aM (i:=0) (show (["some", "load", "hand"]:List Str).Nodup by decide +kernel) rfl (Or.inl rfl)) (aV (aM (i:=1) (show (["some", "load", "hand"]:List Str).Nodup by decide +kernel) rfl (Or.inl rfl)) eA)))) (fun _ _ _ _=>(nD (K:=K) rfl (pv 0))) (fun _ _ _ _=>(aM (i:=2) (show (["some", "load", "hand"]:List Str).Nodup by decide +kernel) rfl (Or.inl rfl)))
    (fun _ _ _ _=>(pv 2)) (fun _ _ _ _=>(pv 1))))
  (aI (aT (bZ cR rfl B.tuple cX (aA (bR (own:=["hand"]) (fr:=[2]) (frn:=["load_of"]) (aR (aF nY) ["book", "weights", "load_of"] rfl rfl (by decide +kernel)) rfl (gN rfl B.range (aA (aY bL (pv 0) aH (fun _ _=>rfl)) aD))
    (fun _ _ _ _=>(aM (i:=0) (show (["hand", "load_of"]:List Str).Nodup by decide +kernel) rfl (Or.inl rfl))) (fun _ _ _ _=>cI)
    (fun _ _ _ _=>(kF (kR hr) (pv 1) (pv 0) (fun _ _=>rfl)))) aD))))),?_⟩
  obtain ⟨a,b,ys,rfl,ha,hb,hys⟩:=iZ hx
  obtain ⟨hn1,hn6,h12,_⟩:=cO hbk
  obtain ⟨RO,_,_⟩:=gI hbk hwt
  refine ⟨_,rfl,_,rfl,_,n,ws,wp,wt,rfl,hx,hbk,hwp,hwt,fun tp us bs H1 s1 ntp etp DB hbl hus=>?_⟩
  have hbm:=lT RO hbl
  rw [aZ] at hbm
  refine ⟨tp,rfl,⟨_,SqL.of etp⟩,wH (K:=K) (a:=tp) (xs:=us) (fun i kvs σ H2=>H2=H1/\(∃ x y z,σ = [x,y,z])/\kvs.length<=6*i/\∀ (j:Nat) c h,j < i->bs[j]?=some c->h∈c.1->∃ v,bY kvs (.inl h)=some v/\Den K H1 (eM (bU (c.2,(c.1.length:Int)))) v) ⟨rfl,⟨_,_,_,rfl⟩,Qh _,fun j c h hj=>by omega⟩ (fun i ys σ H2 ⟨e,_⟩=>by rw [e]; exact SqL.of etp) ?_ ?_⟩
  ·rintro i x kvs σ H2 hx2 ⟨rfl,⟨x1,x2,x3,rfl⟩,hlen,hin⟩
   obtain ⟨c,hc,hcd⟩:=bM DB hx2
   obtain ⟨pp,pq,pr,rfl,hpp,hpq,hpr⟩:=hX hcd
   have hi6:i < 6:=Qi (Qd.mp hx2).1 hus
   have hcl:=hbm c (Qe hc)
   refine ⟨pp,_,rfl,hpp,rfl,_,_,rfl,_,_,rfl,rfl,?_⟩
   refine ⟨_,rfl,pq,rfl,⟨_,hpq⟩,tW (K:=K) (b:=pq) (zs:=c.1.map V.int) (fun j kvs' σ H3=>H3=H2/\(∃ z,σ = [some (.ref pq),some (.ref pr),z])/\kvs'.length<=6*i+j/\(∀ (j':Nat) c' h,j' < i->bs[j']?=some c'->h∈c'.1->∃ v,bY kvs' (.inl h)=some v/\Den K H2 (eM (bU (c'.2,(c'.1.length:Int)))) v)/\∀ h∈c.1.take j,bY kvs' (.inl h)=some (.ref pr)) ⟨rfl,⟨_,rfl⟩,hlen,hin,fun h hh=>by rw [List.take_zero] at hh; cases hh⟩ (fun j ys σ H3 ⟨e,_⟩=>by rw [e]; exact hpq) ?_ ?_⟩
   ·rintro j z kvs' σ H3 hz ⟨rfl,⟨z0,rfl⟩,hl',hin',hnew⟩
    obtain ⟨h,hh,rfl⟩:=eQ hz
    have hjl:j < c.1.length:=(Qd.mp hh).1
    refine ⟨_,rfl,_,rfl,.inl h,rfl,by rw [sizeLine_eq]; omega,rfl,⟨_,rfl⟩,Qt (jG _ _ _) (by omega),fun j' c' h' hj' hc' hh'=>?_,fun h' hh'=>?_⟩
    ·have ne:¬ (Sum.inl h':Key)=Sum.inl h:=fun z=>by
      have e:h'=h:=by simpa using z
      exact xA RO hbl j' i c' c hj' hc' hc h' hh' (by rw [e]; exact Qe hh)
     rw [iW,if_neg ne]
     exact hin' j' c' h' hj' hc' hh'
    ·rw [iW]
     by_cases e:h'=h
     ·rw [if_pos (by rw [e])]
     ·rw [if_neg (fun z=>e (by simpa using z))]
      rw [bQ hh] at hh'
      rcases Jm.mp hh' with hh' | hh'
      ·exact hnew h' hh'
      ·exact absurd (Qs.mp hh') e
   ·rintro kvs' σ H3 ⟨rfl,⟨z0,rfl⟩,hl',hin',hnew⟩
    rw [Qa] at hl' hnew
    rw [Jk] at hnew
    refine ⟨rfl,⟨_,_,_,rfl⟩,by omega,fun j' c' h' hj' hc' hh'=>?_⟩
    by_cases e:j' < i
    ·exact hin' j' c' h' e hc' hh'
    ·have ej:j'=i:=by omega
     rw [ej,hc] at hc'
     have ec:c=c':=Option.some.inj hc'
     rw [<- ec] at hh' ⊢
     exact ⟨_,hnew h' hh',fX.mpr ⟨pr,rfl,hpr⟩⟩
  ·rintro kvs σ H2 ⟨rfl,_,hlen,hin⟩ dp hdp
   have hul:=aK DB
   rw [Qa] at hul
   have s3:=aC.new (o:=.dK kvs) hdp
   have ed:upd H2 dp (.dK kvs) dp=some (.dK kvs):=aB
   have hfin:∀ h∈aQ n.toNat,∃ v,bY kvs (.inl h)=some v/\Den K H2 (eM (bU (eL bs h))) v:=fun h hh=>by
    obtain ⟨c,c1,c2,c3⟩:=nB hbl h hh
    obtain ⟨j,hj⟩:=Jv.mp c1
    rw [c3]
    exact hin j c h (by rw [hul]; exact (Qd.mp hj).1) hj c2
   generalize upd H2 dp (.dK kvs)=H3 at s3 ed ⊢
   dsimp only [dY]
   have s13:=s1.trans s3
   refine ⟨_,rfl,a,_,0,.int n,rfl,rfl,s13.seqT ha,rfl,n,rfl,by omega,by omega,iV (lo:=0) (n:=n.toNat) (fun σ=>∃ v,σ = [v,some (.ref dp)]) (fun i zs H4=>H4=H3/\aO K H3 ((((aQ n.toNat).take i).map fun h=>bU (eL bs h)).map eM) zs) (bP (by omega)) ⟨none,rfl⟩ ⟨rfl,aL.mpr rfl⟩ ?_ ?_ ?_⟩
   ·rintro i zs H4 ⟨_,d4⟩
    rw [aK d4,Qa,Qa,Jd]
    exact Jt _ _
   ·rintro i zs σ H4 hi ⟨v,rfl⟩ ⟨rfl,d4⟩ hz
    have hui:=kZ hi
    obtain ⟨v',hv',hvd⟩:=hfin (i:Int) (Qe hui)
    refine iY ?_
    refine ⟨_,rfl,_,rfl,dp,v',rfl,.inl ⟨kvs,.inl (i:Int),.inl ed,by show V.int (0+(i:Int))=V.int (i:Int); rw [Ys],hv'.symm⟩,hz,⟨_,rfl⟩,rfl,?_⟩
    rw [bQ hui,Qp,Qp]
    exact bC d4 (aJ.mpr ⟨_,_,rfl,s3.den _ _ hvd,aL.mpr rfl⟩)
   ·rintro zs H4 ⟨rfl,d4⟩ lp hlp
    rw [show (aQ n.toNat).take n.toNat=aQ n.toNat from Xe (by rw [aZ]; exact Qh _)] at d4
    refine ⟨lp,zs,rfl,.inl ⟨SqL.of aB,fun tpp htp=>?_⟩⟩
    have s5:=(aC.new (o:=.lst zs) hlp).trans (aC.new (o:=.tup zs) htp)
    exact k tpp zs bs _ (s13.trans s5) (SqT.of aB) (s5.denAll _ _ d4) hbl
end
def aDh:Scope:=match (gK gH).getD 4 (.Pass ⟨0,0,0,0⟩) with
 | .Assign _ (.ListComp _ _ sc _) _=>sc
 | _=>{ kind:=.function,names:=[],isGenerator:=false,isCoroutine:=false }
theorem rH (g:List Int->Int->Int):∀ (ws:List (List Int)) (wt:List Int),wt.length=ws.length->aN ((List.range ws.length).map fun w=>g (ws.getD w []) (wt.getD w 0))=aN ((ws.zip wt).map fun r=>g r.1 r.2)
 | [],_,_=>rfl
 | _::_,[],h=>by cases h
 | l::ws,x::wt,h=>by
  rw [Jh,List.range_succ_eq_map,Jc,Xl,List.zip_cons_cons,Jc]
  show g l x+aN ((List.range ws.length).map fun w=>g (ws.getD w []) (wt.getD w 0))=g l x+_
  rw [rH g ws wt (by simpa using h)]
  rfl
structure Parts (n:Nat) (ws:List (List Int)) (wt:List Int) (bs:bA) (hl:Nat->Int->Int):Prop where
 nn:∀ w h,0<=hl w h
 sup:∀ w h,w < ws.length->0 < hl w h->h∈cV (eL bs) (ws.getD w [])
 rows:∀ w,w < ws.length->aN ((aQ n).map (hl w))=wt.getD w 0*60
 cols:∀ h:Int,0<=h->h < n->aN ((List.range ws.length).map fun w=>hl w h)=gY bs h
theorem jZ {α β:Type} (f:α->β) (l:List α) (i:Nat) (a:α) (b:β) (h:i < l.length):(l.map f).getD i b=f (l.getD i a):=by
 rw [Ji,Ji,Qg,Qc h]; rfl
theorem rJ {n:Nat} (f:Int->Int) {h:Int} (h0:0<=h) (h1:h < n):fnI ((aQ n).map f) h=f h:=by
 have:=kZ (n:=n) (i:=h.toNat) (by omega)
 unfold fnI
 rw [Ji,Qg,this,show ((h.toNat:Nat):Int)=h by omega]; rfl
section
variable {n:Int} {ws:List (List Int)} {wt:List Int} {bs:bA}
theorem aDi (hl:wt.length=ws.length) (hb:bX (aQ n.toNat) (ws.zip wt) bs) (ok:cU (aQ n.toNat) (ws.zip wt)) (h6:n<=6):aBQ n.toNat (ws.map (cV (eL bs))) (fnL (wt.map (· * 60))) (fnI ((aQ n.toNat).map (gY bs))):=fun R=>by
 have h1:=xT hb ok (by rw [aZ]; omega) R
 rw [Qa]
 have e1:aN ((List.range ws.length).map fun w=>if (lW (ws.map (cV (eL bs))) w).all R=true then fnL (wt.map (· * 60)) w else 0)=aN ((List.range ws.length).map fun w=>(fun l x=>if (cV (eL bs) l).all R=true then 60*x else 0) (ws.getD w []) (wt.getD w 0)):=bE fun w hw=>by
  have hw':=Jy.mp hw
  unfold lW fnL
  rw [jZ _ ws w [] [] hw',jZ _ wt w 0 0 (by omega),Xh]
 have e2:aN ((aQ n.toNat).map fun h=>if R h=true then fnI ((aQ n.toNat).map (gY bs)) h else 0)=aN ((aQ n.toNat).map fun h=>if R h=true then gY bs h else 0):=bE fun h hh=>by
  obtain ⟨a,b⟩:=cH.mp hh
  rw [rJ _ a b]
 rw [e1.trans (rH (fun l x=>if (cV (eL bs) l).all R=true then 60*x else 0) ws wt hl),e2]
 have e3:aN ((ws.zip wt).map fun r=>if (cV (eL bs) r.1).all R=true then 60*r.2 else 0)=60*aN ((ws.zip wt).map fun r=>if (cV (eL bs) r.1).all R=true then r.2 else 0):=by
  rw [<- jD]
  exact bE fun r _=>by split <;> omega
 rw [e3]
 exact h1
theorem aB9 {hl:Nat->Int->Int} (hlen:wt.length=ws.length) (hb:bX (aQ n.toNat) (ws.zip wt) bs) (ok:cU (aQ n.toNat) (ws.zip wt)) (h6:n<=6) (S:Sprd n.toNat (ws.map (cV (eL bs))) (fnL (wt.map (· * 60))) (fnI ((aQ n.toNat).map (gY bs))) hl):Parts n.toNat ws wt bs hl:=by
 refine ⟨S.nn,fun w h hw hp=>?_,fun w hw=>?_,fun h h0 h1=>?_⟩
 ·have:=S.sup w h (by rw [Qa]; exact hw) hp
  unfold lW at this
  rwa [jZ _ ws w [] [] hw] at this
 ·have:=S.rows w (by rw [Qa]; exact hw)
  unfold fnL at this
  rwa [jZ _ wt w 0 0 (by omega)] at this
 ·have ht:aN ((List.range (ws.map (cV (eL bs))).length).map (fnL (wt.map (· * 60))))=aN ((aQ n.toNat).map (fnI ((aQ n.toNat).map (gY bs)))):=by
   have e2:aN ((aQ n.toNat).map (fnI ((aQ n.toNat).map (gY bs))))=aN ((aQ n.toNat).map (gY bs)):=bE fun h hh=>by
    obtain ⟨a,b⟩:=cH.mp hh
    exact rJ _ a b
   rw [e2,<- zL hb ok (by rw [aZ]; omega),Qa]
   have e1:aN ((List.range ws.length).map (fnL (wt.map (· * 60))))=aN ((List.range ws.length).map fun w=>(fun (_:List Int) (x:Int)=>60*x) (ws.getD w []) (wt.getD w 0)):=bE fun w hw=>by
    have hw':=Jy.mp hw
    unfold fnL
    rw [jZ _ wt w 0 0 (by omega),Xh]
   rw [e1.trans (rH (fun (_:List Int) (x:Int)=>60*x) ws wt hlen),<- jD]
  have:=aAy S ht h h0 h1
  unfold gU at this
  rw [Qa] at this
  rw [this,rJ _ h0 h1]
theorem zS (hb:bX (aQ n.toNat) (ws.zip wt) bs) (ok:cU (aQ n.toNat) (ws.zip wt)) (h6:n<=6) {h:Int} (hh:h∈aQ n.toNat):0<=(eL bs h).1/\0 < (eL bs h).2/\(eL bs h).2<=6/\∃ k:Nat,(eL bs h).2=k:=by
 obtain ⟨b,b1,b2,b3⟩:=nB hb h hh
 obtain ⟨c1,c2,c3,_⟩:=lT ok hb b b1
 rw [aZ] at c2
 have:=Jp.mpr c1
 rw [b3]
 exact ⟨c3,by show (0:Int) < b.1.length; omega,by show (b.1.length:Int)<=6; omega,b.1.length,rfl⟩
theorem aEo {x:Int×Int} (h:0 < x.2):(bU x).1*60 / (bU x).2=x.1*60 / x.2:=by
 have a:=wQ x.1 h
 have b:=sZ x.1 h
 have g:=kM (a:=x.1) h
 show fQ x.1 x.2*60 / gD x.1 x.2=x.1*60 / x.2
 conv=>rhs; rw [<- a]
 conv=>rhs; arg 2; rw [<- b]
 rw [Jo,Zw _ _ g]
theorem aAK {f:Int->Int×Int} {l:List Int} {g:Int->Int×Int} (h:∀ x∈l,0 < (f x).2/\g x=bU (f x)):cV g l=cV f l:=by
 unfold cV
 refine Zk fun x hx=>?_
 congr 1
 rw [Jl,Ju,Ju]
 refine ⟨fun ⟨o,a,b⟩=>⟨o,a,?_⟩,fun ⟨o,a,b⟩=>⟨o,a,?_⟩⟩
 ·rwa [(h o a).2,(h x hx).2,qY (h o a).1 (h x hx).1] at b
 ·rw [(h o a).2,(h x hx).2,qY (h o a).1 (h x hx).1]; exact b
theorem uR:(ldL n bs).length=n.toNat:=by unfold ldL; rw [Qa,aZ]
theorem aCa {h:Int} (h0:0<=h) (h1:h < n):lsF (ldL n bs) h=bU (eL bs h):=by
 have:=kZ (n:=n.toNat) (i:=h.toNat) (by omega)
 unfold lsF ldL
 rw [Ji,Qg,this,show ((h.toNat:Nat):Int)=h by omega]; rfl
theorem aCb (hb:bX (aQ n.toNat) (ws.zip wt) bs) (hbk:dE (dZ n ws)=true) (hw:oF ws wt):∀ x∈ldL n bs,aC6 x/\0<=x.1/\x.1<=100000/\x.2<=6:=fun x hx=>by
 obtain ⟨h,hh,rfl⟩:=Qx.mp hx
 obtain ⟨_,h6,_,_⟩:=cO hbk
 obtain ⟨ok,rs,rl⟩:=gI hbk hw
 obtain ⟨a,b,c,_⟩:=zS hb ok h6 hh
 have ha:(eL bs h).1<=1188:=by
  obtain ⟨d,d1,d2,d3⟩:=nB hb h hh
  rw [d3]
  have key:∀ {bs:bA} {left:List Int} {rows:bA},RwS rows->bX left rows bs->∀ b∈bs,b.2<=rows.length*99:=by
   intro bs
   induction bs with
   | nil=>intro _ _ _ _ b hb; cases hb
   | cons e bs ih =>
    intro left rows rs hb b hm
    rcases Ql.mp hm with rfl | hm
    ·rw [hb.1.2.2.1]; exact (rC rs _).2
    ·have h1:=ih rs.redu hb.2 b hm
     have h2:=rE rows e.1
     omega
  have:=key rs hb d d1
  show d.2<=1188
  omega
 have p1:=lD (eL bs h).1 b
 have p2:=uG (a:=(eL bs h).1) b
 have p3:=uF a b
 have p4:=pE a b
 refine ⟨⟨p1,Xm (show (bU (eL bs h)).2<=6 by show gD _ _<=6; omega) (by decide),Zd (show (bU (eL bs h)).1.natAbs<=1188 by show (fQ _ _).natAbs<=1188; omega) (by decide)⟩,p3,by show fQ _ _<=_; omega,by show gD _ _<=_; omega⟩
end
def shD (n:Int) (f:Int->Int):PyData:=.tuple (((aQ n.toNat).map fun h=>bU (f h,60)).map eM)
section
variable {P:Program} {w:World} {K:PySem.W.Frag} {mg:Str->Option Value} {base:Heap}
def oI (K:PySem.W.Frag):Sp:=fun vs H Q _=>∃ (x:V) (n:Int) (ws:List (List Int)) (wp:Addr) (wt:List Int),vs = [x,.ref wp]/\Den K H (dZ n ws) x/\dE (dZ n ws)=true/\SqT K H wp (wt.map V.int)/\oF ws wt /\
 ∀ p lp us sp zs bs hl H',aC H H'->SqT K H' p [.ref lp,.ref sp]->SqT K H' lp us->aO K H' ((ldL n bs).map eM) us->H sp=none->H' sp=some (.lst zs)->aO K H' ((List.range ws.length).map fun w=>shD n (hl w)) zs->bX (aQ n.toNat) (ws.zip wt) bs->Parts n.toNat ws wt bs hl->Q (.ref p) H'
theorem iQ:FnScope ["book", "weights", "loads", "takers", "rooms", "held", "shares"] ["book", "weights"] (aF gH):=⟨rfl,rfl,rfl,by decide +kernel,rfl,by decide +kernel,by decide +kernel⟩
theorem yB {f fP fL fS fW:Addr} {fd dP dL dS dW:FuncData} (G:Fn K mg "in_parts" gH ["book", "weights"] f fd) (B:Bl mg) (GPl:Fn K mg "part_loads" nY ["book", "weights"] fP dP) (OPl:FnOk P w K mg base CX0 8 fP dP ["book", "weights"] (uQ K)) (GLl:Fn K mg "least_loaded" kH ["able", "loads"] fL dL) (OLl:FnOk P w K mg base CX0 2 fL dL ["able", "loads"] (rG K)) (GSp:Fn K mg "spread" jH ["takers", "amounts", "rooms"] fS dS) (OSp:FnOk P w K mg base CX0 2 fS dS ["takers", "amounts", "rooms"] (rF K)) (GL:Fn K mg "lowest" mT ["a", "b"] fW dW) (OL:FnOk P w K mg base CX0 2 fW dW ["a", "b"] iE):FnOk P w K mg base CX0 9 f fd ["book", "weights"] (oI K):=by
 obtain ⟨tun,hun⟩:=B.un
 refine G.fn.ok iQ (fun vs H Q E h=>?_) (fun cdv A outer s H vs Q E hr h=>?_)
 ·obtain ⟨x,n,ws,wp,wt,rfl,_⟩:=h
  rfl
 ·obtain ⟨x,n,ws,wp,wt,rfl,hx,hbk,hwp,hwt,k⟩:=h
  have r8:Room 8 _:=hr
  have r2:Room 2 _:=hr.mono (by decide)
  refine ⟨_,(aE (aS (i:=2) iQ.nd rfl (Or.inr rfl) (bK GPl OPl r8 rfl (aA (pv 0) (aA (pv 1) aD))))
  (aE (fM (i:=3) (own:=["able"]) (fr:=[2]) (frn:=["loads"]) (aR (aF gH) ["book", "weights", "loads", "takers", "rooms", "held", "shares"] rfl rfl (by decide +kernel)) rfl iQ.nd rfl rfl rfl (gM (aY bL (pv 0) aH (fun _ _=>rfl)))
    (fun _ _ _ _=>(aM (i:=0) (show (["able", "loads"]:List Str).Nodup by decide +kernel) rfl (Or.inl rfl))) (fun _ _ _ _=>cI)
    (fun _ _ _ _=>(bK GLl OLl r2 rfl (aA (pv 0) (aA (pv 1) aD)))))
  (aE (fM (i:=4) (own:=["a", "b"]) (fr:=[]) (frn:=[]) (aR (aF gH) ["book", "weights", "loads", "takers", "rooms", "held", "shares"] rfl rfl (by decide +kernel)) rfl iQ.nd rfl rfl rfl (gM (pv 2))
    (fun _ _ _ _=>(jJ (K:=K) (n:=2) rfl rfl (aV (aM (i:=0) (show (["a", "b"]:List Str).Nodup by decide +kernel) rfl (Or.inl rfl)) (aV (aM (i:=1) (show (["a", "b"]:List Str).Nodup by decide +kernel) rfl (Or.inl rfl)) eA)))) (fun _ _ _ _=>cI)
    (fun _ _ _ _=>(bD lE (bD eC (pv 0) (lH (v:=.int 60) rfl hun ⟨tun,rfl⟩)) (pv 1))))
  (aE (aS (i:=5) iQ.nd rfl (Or.inl rfl) (bK GSp OSp r2 rfl (aA (pv 3) (aA (bR (own:=["weight"]) (fr:=[]) (frn:=[]) (aR (aF gH) ["book", "weights", "loads", "takers", "rooms", "held", "shares"] rfl rfl (by decide +kernel)) rfl (gM (pv 1))
    (fun _ _ _ _=>(aM (i:=0) (show (["weight"]:List Str).Nodup by decide +kernel) rfl (Or.inl rfl))) (fun _ _ _ _=>cI)
    (fun _ _ _ _=>(bD eC (pv 0) (lH (v:=.int 60) rfl hun ⟨tun,rfl⟩)))) (aA (pv 4) aD)))))
  (aE (vU (i:=6) (z0 := "row") (own:=["row"]) (fr:=[0]) (frn:=["book"]) (pV (aF gH) ["book", "weights", "loads", "takers", "rooms", "held", "shares"] rfl rfl (fun _ _=>rfl) (fun _=>rfl) (by decide +kernel)) rfl iQ.nd rfl rfl rfl (cG (pv 5))
    (fun _ _ _ _=>(aM (i:=0) (show (["row", "book"]:List Str).Nodup by decide +kernel) rfl (Or.inr rfl))) (fun _ _ _ _=>cI)
    (fun _ _ _ _=>(bZ (gR (K:=K) rfl) rfl B.tuple cX (aA (bR (own:=["hand"]) (fr:=[0]) (frn:=["row"]) (aR (aBn aDh (aF gH)) ["row", "book"] rfl rfl (by decide +kernel)) rfl (gN rfl B.range (aA (aY (jK (K:=K) rfl) (pv 1) aH (fun _ _=>rfl)) aD))
    (fun _ _ _ _=>(aM (i:=0) (show (["hand", "row"]:List Str).Nodup by decide +kernel) rfl (Or.inl rfl))) (fun _ _ _ _=>cI)
    (fun _ _ _ _=>(bK GL OL r2 rfl (aA (aEe (K:=K) rfl PySem.F.plainAttrs_dict PySem.F.slot_dict_get PySem.F.type_dict_get yZ (pv 1) (aA (pv 0) (aA aH aD))) (aA (lH (v:=.int 60) rfl hun ⟨tun,rfl⟩) aD))))) aD))))
  (aI (aT (eE (aA (pv 2) (aA (pv 6) aD)))))))))),?_⟩
  obtain ⟨a,b,ys,rfl,ha,hb,hys⟩:=iZ hx
  have hly:=aK hys
  rw [Qa] at hly
  obtain ⟨hn1,hn6,h12,hws⟩:=cO hbk
  obtain ⟨RO,RS,RL⟩:=gI hbk hwt
  refine ⟨_,rfl,_,rfl,_,n,ws,wp,wt,rfl,hx,hbk,hwp,hwt,fun lp us bs H1 s1 hlp dlp hbl=>?_⟩
  dsimp only [dY]
  have hlo:=aCb hbl hbk hwt
  have hul:=aK dlp
  rw [Qa,uR] at hul
  have hwr:∀ l∈ws,∀ h∈l,h∈aQ n.toNat/\0<=h/\h < n:=fun l hl h hh=>by
   have:=(jA (hws l hl)).2.1 h hh
   exact ⟨cH.mpr (by omega),this⟩
  -- takers
  refine ⟨_,rfl,a,_,1,.ref b,rfl,rfl,s1.seqT ha,rfl,b,rfl,⟨_,s1.seqT hb⟩,iB (K:=K) (a:=b) (xs:=ys) (fun σ=>∃ v,σ = [v,some (.ref lp)]) (fun i zs H2=>∃ qs:List Addr,zs=qs.map V.ref/\qs.length=i/\aC H1 H2/\∀ (j:Nat) q l,qs[j]?=some q->ws[j]?=some l->H2 q=some (.lst ((cV (eL bs) l).map V.int))) (bP (by omega)) ⟨none,rfl⟩ ⟨[],rfl,rfl,aC.refl _,fun j q l h=>by simp at h⟩ ?_ (fun i zs H2 ⟨_,_,_,s2,_⟩=>(s1.trans s2).seqT hb) ?_ ?_⟩
  ·rintro i zs H2 ⟨qs,rfl,hq,_⟩
   rw [Qa]; omega
  ·rintro i zs σ y H2 hy ⟨v,rfl⟩ ⟨qs,rfl,hq,s2,hqs⟩ hz
   obtain ⟨l,hl,hld⟩:=bM hys hy
   obtain ⟨al,rfl,hal⟩:=bB.mp hld
   have hlm:=Qe hl
   obtain ⟨c1,c2,c3⟩:=jA (hws l hlm)
   have hl6:=jB (by omega) c2 c3
   have s12:=s1.trans s2
   refine ⟨_,rfl,_,rfl,al,lp,l,us,ldL n bs,rfl,s12.seqT hal,s2.seqT hlp,s2.denAll _ _ dlp,fun x hx=>(hlo x hx).1,by omega,fun h hh=>by rw [uR]; have:=c2 h hh; omega,fun p H3 s3 np ep=>?_⟩
   have el:cV (lsF (ldL n bs)) l=cV (eL bs) l:=aAK fun h hh=>by
    obtain ⟨d1,d2,d3⟩:=hwr l hlm h hh
    exact ⟨(zS hbl RO hn6 d1).2.1,aCa d2 d3⟩
   rw [el] at ep
   refine ⟨hz,⟨_,rfl⟩,qs++[p],by rw [Qp]; rfl,by rw [Qv,hq]; rfl,s2.trans s3,fun j q l' hj hl'=>?_⟩
   by_cases cj:j < qs.length
   ·rw [Jg cj] at hj
    exact s3 _ _ (hqs j q l' hj hl')
   ·rw [Jn (by omega)] at hj
    have hj2:j - qs.length=0:=by
     have:=(Qd.mp hj).1
     simp at this; omega
    rw [hj2] at hj
    have e1:p=q:=by simpa using hj
    rw [show j=i by omega,hl] at hl'
    rw [<- e1,<- Option.some.inj hl']
    exact ep
  ·rintro zs H2 ⟨qs,rfl,hq,s2,hqs⟩ tp htp
   have s3:=s2.trans (aC.new (o:=.lst (qs.map V.ref)) htp)
   have L3:LLs (upd H2 tp (.lst (qs.map V.ref))) tp qs (ws.map (cV (eL bs))):=⟨aB,by rw [Qa]; omega,fun j q l hj hl=>by
    rw [Qg] at hl
    obtain ⟨l0,h0,rfl⟩:=Jb.mp hl
    exact (aC.new htp) _ _ (hqs j q l0 hj h0)⟩
   generalize upd H2 tp (.lst (qs.map V.ref))=H3 at s3 L3 ⊢
   -- rooms
   refine ⟨_,rfl,lp,rfl,⟨_,s3.seqT hlp⟩,gO (K:=K) (a:=lp) (xs:=us) (vs:=((aQ n.toNat).map (gY bs)).map V.int) (fun σ=>∃ v w,σ = [v,w]) (by omega) (by rw [Qa,Qa,aZ,hul]) (s3.seqT hlp) ⟨none,none,rfl⟩ ?_ ?_⟩
   ·rintro i u v σ H4 hu hv ⟨v0,w0,rfl⟩ s4 Q' k'
    obtain ⟨x,hx2,hxd⟩:=bM ((s3.trans s4).denAll _ _ dlp) hu
    obtain ⟨px,rfl,hpx⟩:=fX.mp hxd
    have hil:i < n.toNat:=by rw [<- hul]; exact (Qd.mp hu).1
    have hui:=kZ hil
    rw [Qg,Qg,hui] at hv
    cases hv
    unfold ldL at hx2
    rw [Qg,hui] at hx2
    have ex:bU (eL bs (i:Int))=x:=Option.some.inj hx2
    obtain ⟨o1,o2,o3,o4⟩:=hlo x (by rw [<- ex]; exact Qx.mpr ⟨_,Qe hui,rfl⟩)
    have er:gY bs (i:Int)=x.1*60 / x.2:=by
     rw [<- ex]
     exact (aEo (zS hbl RO hn6 (Qe hui)).2.1).symm
    refine ⟨px,_,rfl,hpx,rfl,_,_,rfl,_,_,rfl,rfl,?_⟩
    refine ⟨_,rfl,_,_,rfl,rfl,⟨dU (by omega),dU (by decide)⟩,_,rfl,_,_,rfl,rfl,⟨o1.1,dU (by have:=o1.1; omega)⟩,?_⟩
    rw [er] at k'
    exact k' _ _ ⟨_,_,rfl⟩ (aC.refl _)
   ·intro H4 s4 mp hmp
    have s5:=s3.trans (s4.trans (aC.new (o:=.lst (((aQ n.toNat).map (gY bs)).map V.int)) hmp))
    have em:upd H4 mp (.lst (((aQ n.toNat).map (gY bs)).map V.int)) mp=some (.lst (((aQ n.toNat).map (gY bs)).map V.int)):=aB
    have L5:=L3.same (s4.trans (aC.new (o:=.lst (((aQ n.toNat).map (gY bs)).map V.int)) hmp))
    generalize upd H4 mp (.lst (((aQ n.toNat).map (gY bs)).map V.int))=H5 at s5 em L5 ⊢
    have s15:=s1.trans s5
    -- amounts
    refine ⟨_,rfl,_,rfl,wp,rfl,⟨_,s15.seqT hwp⟩,gO (K:=K) (a:=wp) (xs:=wt.map V.int) (vs:=(wt.map (· * 60)).map V.int) (fun σ=>∃ v,σ = [v]) (by rw [Qa,hwt.1]; omega) (by simp) (s15.seqT hwp) ⟨none,rfl⟩ ?_ ?_⟩
    ·rintro i u v σ H6 hu hv ⟨v0,rfl⟩ s6 Q' k'
     obtain ⟨x,hx2,rfl⟩:=eQ hu
     rw [Qg,Qg,hx2] at hv
     cases hv
     have:=hwt.2 x (Qe hx2)
     exact ⟨_,rfl,_,_,rfl,rfl,⟨dU (by omega),dU (by decide)⟩,k' _ _ ⟨_,rfl⟩ (aC.refl _)⟩
    ·intro H6 s6 ap hap
     have s7:=s6.trans (aC.new (o:=.lst ((wt.map (· * 60)).map V.int)) hap)
     have s57:=s5.trans s7
     refine ⟨_,rfl,tp,ap,mp,qs,ws.map (cV (eL bs)),wt.map (· * 60),(aQ n.toNat).map (gY bs),n.toNat,rfl,L5.same s7,SqL.of aB,s7 _ _ em,by rw [Qa,Qa]; exact hwt.1,by rw [Qa,aZ],by omega,by rw [Qa]; omega,fun x hx2=>?_,fun x hx2=>?_,fun w h hh=>?_,aDi hwt.1 hbl RO hn6,fun hp ds hds hl H8 s8 R8 hdl HO S8=>?_⟩
     ·obtain ⟨y,hy,rfl⟩:=Qx.mp hx2
      have:=hwt.2 y hy
      omega
     ·obtain ⟨h,hh,rfl⟩:=Qx.mp hx2
      obtain ⟨d1,d2,_⟩:=zS hbl RO hn6 hh
      exact Int.ediv_nonneg (by omega) (by omega)
     ·unfold lW at hh
      by_cases cw:w < ws.length
      ·rw [jZ _ ws w [] [] cw] at hh
       have hm:ws.getD w []∈ws:=by
        rw [Ji,Qc cw]; exact Yf cw
       have:=(hwr _ hm h (qV.mp hh).1).2
       omega
      ·rw [Ji,List.getElem?_eq_none (by rw [Qa]; omega)] at hh
       cases hh
     have PT:=aB9 hwt.1 hbl RO hn6 S8
     rw [Qa] at hdl
     dsimp only [dY]
     have s78:=s7.trans s8
     have s18:=s15.trans s78
     have hdsl:ds.length=ws.length:=by rw [R8.len,hdl]
     -- shares
     refine ⟨_,rfl,hp,rfl,⟨_,SqL.of R8.lst⟩,eU (K:=K) (a:=hp) (xs:=ds.map V.ref) (fun σ=>∃ v,σ = [v,some (.ref a)]) (fun i zs H9=>aC H8 H9/\aO K H9 (((List.range ws.length).take i).map fun w=>shD n (hl w)) zs) (bP (by rw [Qa]; omega)) ⟨none,rfl⟩ ⟨aC.refl _,aL.mpr rfl⟩ ?_ (fun i zs H9 ⟨s9,_⟩=>s9.seqL (SqL.of R8.lst)) ?_ ?_⟩
     ·rintro i zs H9 ⟨_,d9⟩
      rw [aK d9,Qa,Jd]
      exact Jt _ _
     ·rintro i zs σ y H9 hy ⟨v,rfl⟩ ⟨s9,d9⟩ hz
      rw [Qg] at hy
      obtain ⟨d,hd,rfl⟩:=Jb.mp hy
      have hil:i < ws.length:=by rw [<- hdsl]; exact (Qd.mp hd).1
      have hih:i < hds.length:=by rw [hdl]; exact hil
      have hri:=Qc hih
      generalize hds[i]=r at hri
      have hrow:=s9 _ _ (R8.row i d r hd hri)
      have HR:=HO i r hri
      have s19:=s18.trans s9
      refine ⟨_,rfl,a,_,0,.int n,rfl,rfl,s19.seqT ha,rfl,n,rfl,by omega,by omega,iV (lo:=0) (n:=n.toNat) (fun σ=>∃ v,σ = [v,some (.ref d)]) (fun j as H10=>aC H9 H10/\aO K H10 ((((aQ n.toNat).take j).map fun h=>bU (hl i h,60)).map eM) as) (bP (by omega)) ⟨none,rfl⟩ ⟨aC.refl _,aL.mpr rfl⟩ ?_ ?_ ?_⟩
      ·rintro j as H10 ⟨_,d10⟩
       rw [aK d10,Qa,Qa,Jd]
       exact Jt _ _
      ·rintro j as σ H10 hj ⟨v,rfl⟩ ⟨s10,d10⟩ hz2
       have huj:=kZ hj
       have hrow10:=s10 _ _ hrow
       refine iY ?_
       refine ⟨_,rfl,.inr (.inr (.inl ⟨rfl,.inl ⟨_,hrow10⟩⟩)),_,rfl,d,r,.inl (0+(j:Int)),.int 0,rfl,rfl,.inl hrow10,?_⟩
       rw [HR.get,Ys]
       refine ⟨_,_,rfl,by decide,?_,fun p hp2=>?_⟩
       ·exact Xm (show (60:Int)<=2^10 by decide) (by decide)
       ·refine ⟨hz2,⟨_,rfl⟩,s10.trans (aC.new hp2),?_⟩
        rw [bQ huj,Qp,Qp]
        exact bC ((aC.new hp2).denAll _ _ d10) (aJ.mpr ⟨_,_,rfl,fX.mpr ⟨p,rfl,SqT.of aB⟩,aL.mpr rfl⟩)
      ·rintro as H10 ⟨s10,d10⟩ pl hpl
       rw [show (aQ n.toNat).take n.toNat=aQ n.toNat from Xe (by rw [aZ]; exact Qh _)] at d10
       refine ⟨pl,as,rfl,.inl ⟨SqL.of aB,fun pt hpt=>?_⟩⟩
       have s11:=(aC.new (o:=.lst as) hpl).trans (aC.new (o:=.tup as) hpt)
       refine ⟨hz,⟨_,rfl⟩,s9.trans (s10.trans s11),?_⟩
       rw [bQ (Zo hil),Qp]
       exact bC ((s10.trans s11).denAll _ _ d9) (aJ.mpr ⟨_,_,rfl,bV.mpr ⟨pt,as,rfl,SqT.of aB,s11.denAll _ _ d10⟩,aL.mpr rfl⟩)
     ·rintro zs H9 ⟨s9,d9⟩ sp hsp
      rw [Qa,hdsl,Xe (by rw [Zx]; exact Qh _)] at d9
      have sE:=s9.trans (aC.new (o:=.lst zs) hsp)
      have nsp:H sp=none:=(s18.trans s9).free hsp
      have hlpE:=(s5.trans (s78.trans sE)).seqT hlp
      have dlpE:=(s5.trans (s78.trans sE)).denAll _ _ dlp
      have sAll:=s18.trans sE
      have es:upd H9 sp (.lst zs) sp=some (.lst zs):=aB
      have dsE:=(aC.new (o:=.lst zs) hsp).denAll _ _ d9
      generalize upd H9 sp (.lst zs)=H10 at hlpE dlpE sAll es dsE ⊢
      exact ⟨_,rfl,_,rfl,bP (show 2<=1000 by decide),fun p hp2=>k p lp us sp zs bs hl _ (sAll.trans (aC.new hp2)) (SqT.of aB) ((aC.new hp2).seqT hlpE) ((aC.new hp2).denAll _ _ dlpE) nsp ((aC.new hp2) _ _ es) ((aC.new hp2).denAll _ _ dsE) hbl PT⟩
end
theorem yC {a b:List Int} (h:a.Perm b):aN a=aN b:=by
 induction h with
 | nil=>rfl
 | cons x _ ih=>show x+aN _=x+aN _; rw [ih]
 | swap x y l=>show y+(x+aN l)=x+(y+aN l); omega
 | trans _ _ h1 h2=>exact h1.trans h2
theorem aAL {left:List Int} {rows:bA} (ok:cU left rows) (p q:Int->Bool):wIn rows p+wIn rows q<=wIn rows (fun h=>p h || q h)+wIn rows (fun h=>p h && q h):=by
 unfold wIn
 rw [<- gE,<- gE]
 refine jW fun r hr=>?_
 have h0:=(ok r hr).2.2
 have a1:r.1.all p=true->r.1.all (fun h=>p h || q h)=true:=fun h=>Qu.mpr fun x hx=>by rw [Qu.mp h x hx]; rfl
 have a2:r.1.all q=true->r.1.all (fun h=>p h || q h)=true:=fun h=>Qu.mpr fun x hx=>by rw [Qu.mp h x hx]; exact Bool.or_true _
 have a3:r.1.all p=true->r.1.all q=true->r.1.all (fun h=>p h && q h)=true:=fun h h'=>Qu.mpr fun x hx=>by rw [Qu.mp h x hx,Qu.mp h' x hx]; rfl
 by_cases c1:r.1.all p=true
 ·rw [if_pos c1,if_pos (a1 c1)]
  by_cases c2:r.1.all q=true
  ·rw [if_pos c2,if_pos (a3 c1 c2)]; exact Xf _
  ·rw [if_neg c2]; split <;> omega
 ·rw [if_neg c1]
  by_cases c2:r.1.all q=true
  ·rw [if_pos c2,if_pos (a2 c2)]; split <;> omega
  ·rw [if_neg c2]; split <;> split <;> omega
theorem aAM (left:List Int) (p q:Int->Bool):eK left (fun h=>p h || q h)+eK left (fun h=>p h && q h)=eK left p+eK left q:=by
 unfold eK
 induction left with
 | nil=>rfl
 | cons x l ih =>
  rw [Qw,Qw,Qw,Qw]
  cases hp:p x <;> cases hq:q x
  ·simp only [Yj,Yc,Xc,if_false]; exact ih
  ·simp only [Yj,Yc,Xc,if_false,if_true,Jh]; omega
  ·simp only [Wg,Xr,Xc,if_false,if_true,Jh]; omega
  ·simp only [Wg,Xr,if_true,Jh]; omega
theorem mI {left:List Int} {rows:bA} {s:List Int} {m:Int} (ok:cU left rows) (H:qR left rows s m) {p:Int->Bool} (h:wIn rows p*s.length=m*eK left p):∀ x∈left,p x=true->x∈s:=by
 obtain ⟨a1,a2,a3,a4⟩:=H
 have cA:eK left (inS s)=s.length:=by unfold eK; rw [<- a2]
 have ps:(0:Int) < s.length:=by have:=Jp.mpr a1; omega
 have h1:=aAL ok (inS s) p
 have h2:=aAM left (inS s) p
 rw [<- a3] at h1
 rw [cA] at h2
 obtain ⟨b1,b2⟩:=a4 fun h=>inS s h || p h
 have c1:=(a4 fun h=>inS s h && p h).1
 have d1:(m+wIn rows p)*s.length<=(wIn rows (fun h=>inS s h || p h)+wIn rows (fun h=>inS s h && p h))*s.length:=Xy h1 (Zh ps)
 rw [Wr,Wr,h] at d1
 have d2:m*(eK left (fun h=>inS s h || p h)+eK left (fun h=>inS s h && p h))=m*(s.length+eK left p):=by rw [h2]
 rw [Yn,Yn] at d2
 have d3:=b2 (by omega)
 rw [oB a2] at d3
 intro x hx hp
 by_cases c:x∈s
 ·exact c
 ·have:x∈(left.filter fun h=>!inS s h).filter p:=Qr.mpr ⟨Qr.mpr ⟨hx,by rw [show inS s x=false from decide_eq_false c]; rfl⟩,hp⟩
  have:=List.length_pos_of_mem this
  unfold eK at d3
  omega
theorem aAN {left:List Int} {rows:bA} {s s':List Int} {m m':Int} (ok:cU left rows) (H:qR left rows s m) (H':qR left rows s' m'):s=s'/\m=m':=by
 have cA:eK left (inS s)=s.length:=by unfold eK; rw [<- H.2.1]
 have cB:eK left (inS s')=s'.length:=by unfold eK; rw [<- H'.2.1]
 have e1:=(H.2.2.2 (inS s')).1
 have e2:=(H'.2.2.2 (inS s)).1
 rw [<- H'.2.2.1,cB] at e1
 rw [<- H.2.2.1,cA] at e2
 have e:m'*s.length=m*s'.length:=by omega
 have t1:=mI ok H (p:=inS s') (by rw [<- H'.2.2.1,cB]; exact e)
 have t2:=mI ok H' (p:=inS s) (by rw [<- H.2.2.1,cA]; exact e.symm)
 have es:s=s':=by
  rw [H.2.1,H'.2.1]
  refine Zk fun x hx=>?_
  rw [Jl,bH,bH]
  exact ⟨fun h=>t2 x hx (bH.mpr h),fun h=>t1 x hx (bH.mpr h)⟩
 exact ⟨es,by rw [H.2.2.1,H'.2.2.1,es]⟩
theorem xB {rows:bA} {s:List Int} {m:Int} (H:qR [] rows s m):False:=H.1 (by rw [H.2.1]; rfl)
theorem jE:∀ {bs bs':bA} {left:List Int} {rows:bA},cU left rows->bX left rows bs->bX left rows bs'->bs=bs'
 | [],[],_,_,_,_,_=>rfl
 | [],c::_,left,rows,_,h,h'=>by
  rw [show left = [] from h] at h'
  exact (xB h'.1).elim
 | b::_,[],left,rows,_,h,h'=>by
  rw [show left = [] from h'] at h
  exact (xB h.1).elim
 | b::bs,c::bs',left,rows,ok,h,h'=>by
  obtain ⟨e1,e2⟩:=aAN ok h.1 h'.1
  have e:b=c:=Prod.ext e1 e2
  subst e
  rw [jE ok.redu h.2 h'.2]
theorem xC {rows rows':bA} (h:rows.Perm rows') (p:Int->Bool):wIn rows p=wIn rows' p:=yC (h.map _)
theorem aAO {left:List Int} {rows rows':bA} {s:List Int} {m:Int} (h:rows.Perm rows') (H:qR left rows s m):qR left rows' s m :=
 ⟨H.1,H.2.1,by rw [<- xC h]; exact H.2.2.1,fun p=>by rw [<- xC h]; exact H.2.2.2 p⟩
theorem xD:∀ {bs:bA} {left:List Int} {rows rows':bA},rows.Perm rows'->bX left rows bs->bX left rows' bs
 | [],_,_,_,_,h=>h
 | b::bs,left,rows,rows',p,h=>⟨aAO p h.1,xD ((p.filter _).map _) h.2⟩
def dbl (r:List Int×Int):List Int×Int:=(r.1,2*r.2)
theorem zT (rows:bA) (p:Int->Bool):wIn (rows.map dbl) p=2*wIn rows p:=by
 unfold wIn
 rw [<- jD,Xl]
 refine bE fun r _=>?_
 show (if r.1.all p=true then 2*r.2 else 0)=2*(if r.1.all p=true then r.2 else 0)
 split <;> omega
theorem aCc (rows:bA) (s:List Int):redu (rows.map dbl) s=(redu rows s).map dbl:=by
 unfold redu
 rw [Wk,Xl,Xl]
 rfl
theorem zU:∀ {bs:bA} {left:List Int} {rows:bA},bX left rows bs->bX left (rows.map dbl) (bs.map dbl)
 | [],_,_,h=>h
 | b::bs,left,rows,h=>by
  obtain ⟨a1,a2,a3,a4⟩:=h.1
  refine ⟨⟨a1,a2,by rw [zT]; show 2*b.2=_; rw [a3]; rfl,fun p=>?_⟩,?_⟩
  ·obtain ⟨c1,c2⟩:=a4 p
   show wIn (rows.map dbl) p*b.1.length<=2*b.2*_/\(wIn (rows.map dbl) p*b.1.length=2*b.2*_->_<=(b.1.length:Int))
   rw [zT,Jo,Jo]
   exact ⟨by omega,fun z=>c2 (by omega)⟩
  ·show bX _ (redu (rows.map dbl) b.1) (bs.map dbl)
   rw [aCc]
   exact zU h.2
def srt (n:Nat) (l:List Int):List Int:=(aQ n).filter (inS l)
theorem pH {n:Nat} {l:List Int} (h:∀ x∈l,x∈aQ n) {x:Int}:x∈srt n l↔x∈l:=by
 unfold srt
 rw [Qr,bH]
 exact ⟨fun z=>z.2,fun z=>⟨h x z,z⟩⟩
structure Ren (n:Nat) (g:Int->Int):Prop where
 rng:∀ x∈aQ n,g x∈aQ n
 inj:∀ x∈aQ n,∀ y∈aQ n,g x=g y->x=y
section
variable {n:Nat} {g:Int->Int} (R:Ren n g)
include R
theorem Ren.map {l:List Int} (h:∀ x∈l,x∈aQ n):∀ x∈l.map g,x∈aQ n:=fun x hx=>by
 obtain ⟨y,hy,rfl⟩:=Qx.mp hx
 exact R.rng y (h y hy)
theorem Ren.inS {l:List Int} (h:∀ x∈l,x∈aQ n) {x:Int} (hx:x∈aQ n):Ab.inS (srt n (l.map g)) (g x)=Ab.inS l x:=by
 rw [Jl,bH,bH,pH (R.map h),Qx]
 exact ⟨fun ⟨y,hy,e⟩=>by rw [<- R.inj y (h y hy) x hx e]; exact hy,fun z=>⟨x,z,rfl⟩⟩
theorem Ren.all {l:List Int} (h:∀ x∈l,x∈aQ n) (p:Int->Bool):(srt n (l.map g)).all p=l.all fun x=>p (g x):=by
 rw [Jl,Qu,Qu]
 refine ⟨fun z x hx=>z (g x) ((pH (R.map h)).mpr (Qx.mpr ⟨x,hx,rfl⟩)),fun z x hx=>?_⟩
 obtain ⟨y,hy,rfl⟩:=Qx.mp ((pH (R.map h)).mp hx)
 exact z y hy
theorem Ren.perm {l:List Int} (h:∀ x∈l,x∈aQ n) (nd:l.Nodup):(srt n (l.map g)).Perm (l.map g):=by
 have nd2:(l.map g).Nodup:=by
  rw [Xb,Zy]
  refine List.Pairwise.imp_of_mem ?_ (Xb.mp nd)
  intro a b ha hb hne e
  exact hne (R.inj a (h a ha) b (h b hb) e)
 refine (List.perm_ext_iff_of_nodup ((iO n).filter _) nd2).mpr fun x=>pH (R.map h)
theorem Ren.cnt {l:List Int} (h:∀ x∈l,x∈aQ n) (nd:l.Nodup) (p:Int->Bool):eK (srt n (l.map g)) p=eK l fun x=>p (g x):=by
 unfold eK
 rw [((R.perm h nd).filter p).length_eq,Wk,Qa]
 rfl
theorem Ren.filt {l s:List Int} (h:∀ x∈l,x∈aQ n) (hs:∀ x∈s,x∈aQ n):(srt n (l.map g)).filter (fun x=>!Ab.inS (srt n (s.map g)) x)=srt n ((l.filter fun x=>!Ab.inS s x).map g):=by
 unfold srt
 rw [Yv]
 refine Zk fun x hx=>?_
 have e:Ab.inS ((aQ n).filter (Ab.inS (s.map g))) x=Ab.inS (s.map g) x:=by
  rw [Jl,bH,bH,Qr,bH]
  exact ⟨fun z=>z.2,fun z=>⟨hx,z⟩⟩
 rw [e,Jl,Jj,Bool.not_eq_true',bH,bH]
 constructor
 ·rintro ⟨z1,z2⟩
  obtain ⟨y,hy,rfl⟩:=Qx.mp z2
  refine Qx.mpr ⟨y,Qr.mpr ⟨hy,?_⟩,rfl⟩
  cases q:Ab.inS s y with
  | false=>rfl
  | true=>rw [show Ab.inS (s.map g) (g y)=true from bH.mpr (Qx.mpr ⟨y,bH.mp q,rfl⟩)] at z1; cases z1
 ·intro z
  obtain ⟨y,hy,rfl⟩:=Qx.mp z
  obtain ⟨y1,y2⟩:=Qr.mp hy
  refine ⟨?_,Qx.mpr ⟨y,y1,rfl⟩⟩
  cases q:Ab.inS (s.map g) (g y) with
  | false=>rfl
  | true =>
   obtain ⟨v,hv,e2⟩:=Qx.mp (bH.mp q)
   have:=R.inj v (hs v hv) y (h y y1) e2
   rw [show Ab.inS s y=true from bH.mpr (by rw [<- this]; exact hv)] at y2
   cases y2
end
def ren (n:Nat) (g:Int->Int) (r:List Int×Int):List Int×Int:=(srt n (r.1.map g),r.2)
theorem zV {n:Nat} {g:Int->Int} (R:Ren n g) {rows:bA} (h:∀ r∈rows,∀ x∈r.1,x∈aQ n) (p:Int->Bool):wIn (rows.map (ren n g)) p=wIn rows fun x=>p (g x):=by
 unfold wIn
 rw [Xl]
 refine bE fun r hr=>?_
 show (if (srt n (r.1.map g)).all p=true then r.2 else 0)=_
 rw [R.all (h r hr)]
theorem aAP {rows:bA} {p q:Int->Bool} (h:∀ r∈rows,∀ x∈r.1,p x=q x):wIn rows p=wIn rows q:=by
 unfold wIn
 refine bE fun r hr=>?_
 have:r.1.all p=r.1.all q:=by
  rw [Jl,Qu,Qu]
  exact ⟨fun z x hx=>by rw [<- h r hr x hx]; exact z x hx,fun z x hx=>by rw [h r hr x hx]; exact z x hx⟩
 rw [this]
theorem aCd {n:Nat} {g:Int->Int} (R:Ren n g) {rows:bA} (h:∀ r∈rows,∀ x∈r.1,x∈aQ n) {s:List Int} (hs:∀ x∈s,x∈aQ n):redu (rows.map (ren n g)) (srt n (s.map g))=(redu rows s).map (ren n g):=by
 unfold redu
 rw [Wk,Xl,Xl]
 have e:rows.filter ((fun r=>!(r.1.all (inS (srt n (s.map g))))) ∘ ren n g)=rows.filter fun r=>!(r.1.all (inS s)):=Zk fun r hr=>by
  show (!((srt n (r.1.map g)).all (inS (srt n (s.map g)))))=_
  rw [R.all (h r hr)]
  congr 1
  rw [Jl,Qu,Qu]
  exact ⟨fun z x hx=>by rw [<- R.inS hs (h r hr x hx)]; exact z x hx,fun z x hx=>by rw [R.inS hs (h r hr x hx)]; exact z x hx⟩
 rw [e]
 refine Zp fun r hr=>?_
 have hr':=(Qr.mp hr).1
 show ((srt n (r.1.map g)).filter (fun x=>!inS (srt n (s.map g)) x),r.2)=(srt n ((r.1.filter fun x=>!inS s x).map g),r.2)
 rw [R.filt (h r hr') hs]
theorem zW {n:Nat} {g:Int->Int} (R:Ren n g):∀ {bs:bA} {left:List Int} {rows:bA},(∀ x∈left,x∈aQ n)->left.Nodup->cU left rows->bX left rows bs->bX (srt n (left.map g)) (rows.map (ren n g)) (bs.map (ren n g))
 | [],left,rows,_,_,_,h=>by
  show srt n (left.map g) = []
  rw [show left = [] from h]
  unfold srt
  refine Wf.mpr fun x _=>?_
  rw [show inS (List.map g []) x=false from decide_eq_false Ja]
  decide
 | b::bs,left,rows,hl,nd,ok,h=>by
  obtain ⟨a1,a2,a3,a4⟩:=h.1
  have hb:∀ x∈b.1,x∈left:=fun x hx=>by rw [a2] at hx; exact (Qr.mp hx).1
  have hbn:∀ x∈b.1,x∈aQ n:=fun x hx=>hl x (hb x hx)
  have ndb:b.1.Nodup:=by rw [a2]; exact nd.filter _
  have hrn:∀ r∈rows,∀ x∈r.1,x∈aQ n:=fun r hr x hx=>hl x ((ok r hr).2.1 x hx)
  have el:(srt n (b.1.map g)).length=b.1.length:=by rw [(R.perm hbn ndb).length_eq,Qa]
  refine ⟨⟨?_,?_,?_,fun p=>?_⟩,?_⟩
  ·show srt n (b.1.map g)≠[]
   intro z
   rw [z] at el
   exact a1 (Za.mp el.symm)
  ·show srt n (b.1.map g)=(srt n (left.map g)).filter (inS (srt n (b.1.map g)))
   unfold srt
   rw [Yv]
   refine Zk fun x hx=>?_
   have e:inS ((aQ n).filter (inS (b.1.map g))) x=inS (b.1.map g) x:=by
    rw [Jl,bH,bH,Qr,bH]
    exact ⟨fun z=>z.2,fun z=>⟨hx,z⟩⟩
   rw [e,Jl,Jj,bH,bH]
   refine ⟨fun z=>⟨z,?_⟩,fun z=>z.1⟩
   obtain ⟨y,hy,rfl⟩:=Qx.mp z
   exact Qx.mpr ⟨y,hb y hy,rfl⟩
  ·show b.2=wIn (rows.map (ren n g)) (inS (srt n (b.1.map g)))
   rw [zV R hrn,a3]
   exact aAP fun r hr x hx=>(R.inS hbn (hrn r hr x hx)).symm
  ·show wIn (rows.map (ren n g)) p*((srt n (b.1.map g)).length:Int)<=b.2*eK (srt n (left.map g)) p/\(wIn (rows.map (ren n g)) p*((srt n (b.1.map g)).length:Int)=b.2*eK (srt n (left.map g)) p->eK (srt n (left.map g)) p<=((srt n (b.1.map g)).length:Int))
   rw [zV R hrn,R.cnt hl nd,el]
   exact a4 _
  ·show bX ((srt n (left.map g)).filter fun h=>!inS (srt n (b.1.map g)) h) (redu (rows.map (ren n g)) (srt n (b.1.map g))) (bs.map (ren n g))
   rw [R.filt hl hbn,aCd R hrn hbn]
   exact zW R (fun x hx=>hl x (Qr.mp hx).1) (nd.filter _) ok.redu h.2
theorem aDj {n:Nat} {g:Int->Int} (R:Ren n g):srt n ((aQ n).map g)=aQ n:=by
 unfold srt
 refine Yp.mpr fun x hx=>?_
 rw [bH]
 by_cases c:x∈(aQ n).map g
 ·exact c
 ·exfalso
  have nd2:((aQ n).map g).Nodup:=by
   rw [Xb,Zy]
   refine List.Pairwise.imp_of_mem ?_ (Xb.mp (iO n))
   intro a b ha hb hne e
   exact hne (R.inj a ha b hb e)
  have:=iP n (x::(aQ n).map g) (Xi.mpr ⟨c,nd2⟩) fun y hy=>by
   rcases Ql.mp hy with rfl | hy
   ·exact cH.mp hx
   ·obtain ⟨z,hz,rfl⟩:=Qx.mp hy
    exact cH.mp (R.rng z hz)
  rw [Jh,Qa] at this
  unfold aQ at this
  rw [Qa,Zx] at this
  omega
theorem aDk {n:Nat} {f:Int} (hn:0 < n):Ren n fun x=>(x+f) % (n:Int):=by
 refine ⟨fun x _=>cH.mpr ⟨Zg _ (by omega),Xs _ (by omega)⟩,fun x hx y hy e=>?_⟩
 obtain ⟨a,b⟩:=cH.mp hx
 obtain ⟨c,d⟩:=cH.mp hy
 have h1:((x+f) - (y+f)) % (n:Int)=0:=Int.emod_eq_emod_iff_emod_sub_eq_zero.mp e
 have h2:(x - y) % (n:Int)=0:=by rw [show x - y=(x+f) - (y+f) by omega]; exact h1
 have h3:=Wi (x - y) (n:Int)
 rw [h2] at h3
 have h4:(n:Int)*((x - y) / n)=x - y:=by omega
 have h5:(x - y) / (n:Int)=0:=by
  by_cases c1:0 < (x - y) / (n:Int)
  ·have:(n:Int)*1<=(n:Int)*((x - y) / n):=Zb (by omega) (by omega)
   omega
  ·by_cases c2:(x - y) / (n:Int) < 0
   ·have:(n:Int)*((x - y) / n)<=(n:Int)*(-1):=Zb (by omega) (by omega)
    omega
   ·omega
 rw [h5] at h4
 omega
theorem aAQ (ts:List Str):(tupleText ts).length<=3+piled ts:=by
 unfold tupleText
 rw [Str.length_append,Str.length_append]
 have e1:((("(" : String):Str)).length=1:=rfl
 have e3:(((if ts.length==1 then ",)" else ")" : String):Str)).length<=2:=by split <;> decide
 have e4:(Str.join ", " ts).length<=piled ts:=by
  cases ts with
  | nil=>decide
  | cons x r=>have:=join_length_add (x::r) (by simp); omega
 omega
theorem nH {α:Type} (f:α->PyData):∀ l:List α,PyData.shownAll (l.map f)=l.map fun x=>(f x).shown
 | []=>by rw [Zt,PyData.shownAll]; rfl
 | x::r=>by rw [Jc,PyData.shownAll,nH f r]; rfl
theorem tF {α:Type} (f:α->Str) (k:Nat):∀ l:List α,(∀ x∈l,(f x).length<=k)->piled (l.map f)<=(k+2)*l.length
 | [],_=>by rw [Zt,piled_nil]; exact Jf _
 | x::r,h=>by
  rw [Jc,piled_cons,Jh,Nat.mul_succ]
  have h1:=h x (Qk ..)
  have h2:=tF f k r (fun y hy=>h y (Qq _ hy))
  omega
theorem aAR {i:Int} (h0:0<=i) (h1:i < 10):(PyData.int i).shown.length<=1:=by
 have h:i=0∨i=1∨i=2∨i=3∨i=4∨i=5∨i=6∨i=7∨i=8∨i=9:=by omega
 rcases h with rfl | rfl | rfl | rfl | rfl | rfl | rfl | rfl | rfl | rfl <;> decide +kernel
theorem aAS {l:List Int} (h:∀ x∈l,0<=x/\x < 10):(PyData.tuple (l.map .int)).shown.length<=3+3*l.length:=by
 rw [PyData.shown,nH]
 have h1:=aAQ (l.map fun x=>(PyData.int x).shown)
 have h2:=tF (fun x:Int=>(PyData.int x).shown) 1 l (fun x hx=>aAR (h x hx).1 (h x hx).2)
 omega
theorem nI {α:Type} (f:α->PyData):∀ l:List α,(∀ x∈l,(f x).showable=true)->PyData.showableAll (l.map f)=true
 | [],_=>by rw [Zt,PyData.showableAll]
 | x::r,h=>by rw [Jc,PyData.showableAll,h x (Qk ..),nI f r (fun y hy=>h y (Qq _ hy))]; rfl
theorem uS {i:Int} (h0:0<=i) (h1:i < 10):(PyData.int i).showable=true:=by
 have h:i=0∨i=1∨i=2∨i=3∨i=4∨i=5∨i=6∨i=7∨i=8∨i=9:=by omega
 rcases h with rfl | rfl | rfl | rfl | rfl | rfl | rfl | rfl | rfl | rfl <;> decide +kernel
theorem nJ {l:List Int} (h:∀ x∈l,0<=x/\x < 10):(PyData.tuple (l.map .int)).showable=true:=by
 rw [PyData.showable]
 exact nI _ l fun x hx=>uS (h x hx).1 (h x hx).2
theorem rK (ds:List PyData):PyData.eqv (.list ds) (.list [])=ds.isEmpty:=by
 rw [PyData.eqv]
 cases ds <;> simp [PyData.eqvAll]
theorem oJ {x:Int×Int} (hx:0 < x.2) (W t:Int):(W*(bU x).2<=(bU x).1*t↔W*x.2<=x.1*t)/\(W*(bU x).2=(bU x).1*t↔W*x.2=x.1*t):=by
 have a:=wQ x.1 hx
 have b:=sZ x.1 hx
 have g:=kM (a:=x.1) hx
 show (W*gD x.1 x.2<=fQ x.1 x.2*t↔_)/\(W*gD x.1 x.2=fQ x.1 x.2*t↔_)
 generalize (Int.gcd x.1 x.2:Int)=G at a b g
 generalize fQ x.1 x.2=A at a ⊢
 generalize gD x.1 x.2=C at b ⊢
 rw [<- a,<- b]
 have e1:W*(G*C)=G*(W*C):=by rw [<- Jo,Xh W G,Jo]
 have e2:G*A*t=G*(A*t):=Jo ..
 rw [e1,e2]
 exact ⟨⟨fun z=>Zb z (Zh g),fun z=>Int.le_of_mul_le_mul_left z g⟩,fun z=>by rw [z],fun z=>Int.eq_of_mul_eq_mul_left (by omega) z⟩
theorem iF (x:Int×Int):cT (eM x)=true:=dQ [x.1,x.2]
theorem jM (x:Int×Int):SeqAt.shaped (eM x)=true:=gT [x.1,x.2]
theorem rL (x y:Int×Int):PyData.eqv (eM x) (eM y)=decide (x=y):=by
 have h:=lP [x.1,x.2] [y.1,y.2]
 have e:PyData.eqv (eM x) (eM y)=decide ([x.1,x.2] = [y.1,y.2]):=h
 rw [e]
 refine decide_eq_decide.mpr ⟨fun z=>?_,fun z=>by rw [z]⟩
 injection z with z1 z2
 injection z2 with z2
 exact Prod.ext z1 z2
theorem aCe (rows:bA) (r:List Int×Int) (p:Int->Bool):wIn (rows++[r]) p=wIn rows p+(if r.1.all p=true then r.2 else 0):=by
 unfold wIn
 rw [Qp,iN]
 show _+((if r.1.all p=true then r.2 else 0)+0)=_
 omega
theorem aCf {tA tB:TT} {σ:St} {H:Hp} {Q:Bool->Hp->Prop} (P:Prop) (hA:∀ R:Bool->Hp->Prop,(∀ b H',aC H H'->(b=true->P)->R b H')->tA σ H R) (hB:P->∀ H1,aC H H1->∀ R:Bool->Hp->Prop,(∀ H',aC H1 H'->R false H')->tB σ H1 R) (h:∀ H',aC H H'->Q false H'):aEt tA tB σ H Q:=by
 refine hA _ fun b H1 s1 hb=>?_
 cases b with
 | false=>exact eF (h _ s1)
 | true=>exact iT (hB (hb rfl) H1 s1 _ fun H2 s2=>h _ (s1.trans s2))
section
variable {P:Program} {w:World} {K:PySem.W.Frag} {mg:Str->Option Value} {base:Heap}
structure Fnd (K:PySem.W.Frag) (H:Hp) (fp:Addr) (us:List V) (n:Int) (ws:List (List Int)) (wt:List Int) (bs:bA):Prop where
 lst:H fp=some (.lst us)
 den:aO K H (bs.map fZ) us
 bk:dE (dZ n ws)=true
 wtk:oF ws wt
 blk:bX (aQ n.toNat) (ws.zip wt) bs
theorem Fnd.same {H H':Hp} {fp:Addr} {us:List V} {n:Int} {ws:List (List Int)} {wt:List Int} {bs:bA} (h:Fnd K H fp us n ws wt bs) (s:aC H H'):Fnd K H' fp us n ws wt bs:=⟨s _ _ h.lst,s.denAll _ _ h.den,h.bk,h.wtk,h.blk⟩
theorem Fnd.len {H:Hp} {fp:Addr} {us:List V} {n:Int} {ws:List (List Int)} {wt:List Int} {bs:bA} (h:Fnd K H fp us n ws wt bs):us.length=bs.length:=by rw [aK h.den,Qa]
theorem aCg {n:Int} {rows bs:bA} (hn:1<=n) (h:bX (aQ n.toNat) rows bs):∃ b r,bs=b::r:=by
 cases bs with
 | cons b r=>exact ⟨b,r,rfl⟩
 | nil =>
  have e:aQ n.toNat = []:=h
  have:=congrArg Yl e
  rw [aZ] at this
  simp at this
  omega
theorem oK {left:List Int} {rows bs:bA} (ok:cU left rows) (h:bX left rows bs):∀ b∈bs,b.1.length<=left.length/\(∀ x∈b.1,x∈left)/\0 < b.1.length/\0<=b.2:=fun b hb=>by
 obtain ⟨a1,a2,a3,a4⟩:=lT ok h b hb
 exact ⟨a2,a4,Jp.mpr a1,a3⟩
def uT (K:PySem.W.Frag):Sp:=fun vs H Q _=>∃ (x:V) (n:Int) (ws:List (List Int)) (wp:Addr) (wt:List Int),vs = [x,.ref wp]/\Den K H (dZ n ws) x/\dE (dZ n ws)=true/\SqT K H wp (wt.map V.int)/\oF ws wt /\
 ∀ p b r H',aC H H'->SqT K H' p (b.1.map V.int)->bX (aQ n.toNat) (ws.zip wt) (b::r)->Q (.ref p) H'
theorem aDl:FnScope ["book", "weights"] ["book", "weights"] (aF tX):=⟨rfl,rfl,rfl,by decide +kernel,rfl,by decide +kernel,by decide +kernel⟩
theorem aCh {f fB:Addr} {fd dB:FuncData} (G:Fn K mg "first_set" tX ["book", "weights"] f fd) (GBl:Fn K mg "blocks" gQ ["book", "weights"] fB dB) (OBl:FnOk P w K mg base CX0 7 fB dB ["book", "weights"] (lG K)):FnOk P w K mg base CX0 8 f fd ["book", "weights"] (uT K):=by
 refine G.fn.ok aDl (fun vs H Q E h=>?_) (fun cdv A outer s H vs Q E hr h=>?_)
 ·obtain ⟨x,n,ws,wp,wt,rfl,_⟩:=h
  rfl
 ·obtain ⟨x,n,ws,wp,wt,rfl,hx,hbk,hwp,hwt,k⟩:=h
  have r7:Room 7 _:=hr
  refine ⟨_,(aI (aT (aY bL (aY dG (bK GBl OBl r7 rfl (aA (pv 0) (aA (pv 1) aD))) aH (fun _ _=>rfl)) aH (fun _ _=>rfl)))),?_⟩
  refine ⟨_,rfl,_,rfl,x,n,ws,wp,wt,rfl,hx,hbk,hwp,hwt,fun p us bs H1 s1 np ep db hbl hus=>?_⟩
  obtain ⟨b,r,rfl⟩:=aCg (cO hbk).1 hbl
  obtain ⟨u,us',rfl,hu,_⟩:=aJ.mp db
  obtain ⟨pp,pq,pr,rfl,hpp,hpq,_⟩:=hX hu
  exact ⟨p,_,0,_,rfl,rfl,SqL.of ep,gC (xs:=V.ref pp::us') (j:=0) rfl,pp,_,0,.ref pq,rfl,rfl,hpp,rfl,k pq b r H1 s1 hpq hbl⟩
def uU (K:PySem.W.Frag):Sp:=fun vs H Q _=>∃ (n:Nat),vs = [.int n]/\n<=6/\∀ p xs H',aC H H'->H p=none->H' p=some (.lst xs)->aO K H' ((gZ (aQ n)).map bN) xs->Q (.ref p) H'
theorem pI:FnScope ["n", "found", "hand"] ["n"] (aF qK):=⟨rfl,rfl,rfl,by decide +kernel,rfl,by decide +kernel,by decide +kernel⟩
theorem aCi {f:Addr} {fd:FuncData} (G:Fn K mg "_law_asets" qK ["n"] f fd) (B:Bl mg):FnOk P w K mg base CX0 1 f fd ["n"] (uU K):=by
 refine G.fn.ok pI (fun vs H Q E h=>?_) (fun cdv A outer s H vs Q E hr h=>?_)
 ·obtain ⟨n,rfl,_⟩:=h
  rfl
 ·obtain ⟨n,rfl,h6,k⟩:=h
  refine ⟨_,(aE (aS (i:=1) pI.nd rfl (Or.inl rfl) (fG (aA (eE aD) aD)))
  (aE (fE PassesOwn.never rfl (gN rfl B.range (aA (pv 0) aD)) (aM (i:=2) pI.nd rfl (Or.inr rfl))
   (aI (aS (i:=1) pI.nd rfl (Or.inl rfl) (bD pO (pv 1) (bR (own:=["some"]) (fr:=[2]) (frn:=["hand"]) (aR (aF qK) ["n", "found", "hand"] rfl rfl (by decide +kernel)) rfl (cG (pv 1))
    (fun _ _ _ _=>(aM (i:=0) (show (["some", "hand"]:List Str).Nodup by decide +kernel) rfl (Or.inl rfl))) (fun _ _ _ _=>cI)
    (fun _ _ _ _=>(bD (vR (K:=K) rfl) (pv 0) (eE (aA (pv 1) aD)))))))))
  (aI (aT (vF yR (pv 1) (yO aH) yN))))),?_⟩
  refine ⟨bP (Jf _),fun p0 h0=>⟨sz1 _,fun p1 h1=>?_⟩⟩
  have s1:=(aC.new (o:=.tup []) h0).trans (aC.new (o:=.lst [.ref p0]) h1)
  have n1:H p1=none:=(aC.new (o:=.tup []) h0).free h1
  have e1:upd (upd H p0 (.tup [])) p1 (.lst [.ref p0]) p1=some (.lst [.ref p0]):=aB
  have d1:aO K (upd (upd H p0 (.tup [])) p1 (.lst [.ref p0])) ((cP (aQ 0)).map bN) [.ref p0]:=aJ.mpr ⟨_,_,rfl,bB.mpr ⟨p0,rfl,(aC.new h1).seqT (SqT.of aB)⟩,aL.mpr rfl⟩
  generalize upd (upd H p0 (.tup [])) p1 (.lst [.ref p0])=H1 at s1 e1 d1 ⊢
  dsimp only [dY]
  refine ⟨_,rfl,n,rfl,by omega,by omega,jQ (lo:=0) (n:=((n:Int)).toNat) (fun i σ H2=>∃ q xs v,σ = [some (.int n),some (.ref q),v]/\aC H H2/\H q=none/\H2 q=some (.lst xs)/\aO K H2 ((cP (aQ i)).map bN) xs) ⟨p1,_,none,rfl,s1,n1,e1,d1⟩ ?_ ?_⟩
  ·rintro i σ H2 hi ⟨q,xs,v,rfl,s2,nq,hq,hd⟩
   have hxl:xs.length=2^i:=by rw [aK hd,Qa,nE,aZ]
   have hx32:xs.length<=32:=by rw [hxl]; exact zQ (n:=5) (by omega)
   refine ⟨_,rfl,_,rfl,q,rfl,⟨_,SqL.of hq⟩,eU (K:=K) (a:=q) (xs:=xs) (fun σ=>∃ v,σ = [v,some (.int (0+(i:Int)))]) (fun j ys H3=>aC H2 H3/\aO K H3 (((cP (aQ i)).take j).map fun t=>bN (t++[(i:Int)])) ys) (bP (by omega)) ⟨none,rfl⟩ ⟨aC.refl _,aL.mpr rfl⟩ ?_ (fun j ys H3 ⟨s3,_⟩=>s3.seqL (SqL.of hq)) ?_ ?_⟩
   ·rintro j ys H3 ⟨_,hd3⟩
    rw [aK hd3,Qa,Jd]
    exact Jt _ _
   ·rintro j ys σ x H3 hx ⟨v0,rfl⟩ ⟨s3,hd3⟩ hz
    obtain ⟨d,hd1,hd2⟩:=jS (s3.denAll _ _ hd) hx
    rw [Qg] at hd1
    obtain ⟨t,ht,rfl⟩:=Jb.mp hd1
    obtain ⟨a,rfl,ha⟩:=bB.mp hd2
    have ht5:t.length<=i:=by
     have:=lF _ t (Qe ht)
     rw [aZ] at this
     omega
    refine ⟨_,rfl,_,rfl,sz1 _,fun pt hpt=>⟨a,pt,_,_,rfl,rfl,(aC.new hpt).seqT ha,SqT.of aB,bP (by rw [Qa]; show _+1<=_; omega),fun pc H4 s4 hpc=>?_⟩⟩
    have s34:=(aC.new (o:=.tup [.int (0+(i:Int))]) hpt).trans s4
    refine ⟨hz,⟨_,rfl⟩,s3.trans s34,?_⟩
    rw [Ya,ht,Qp]
    refine bC (s34.denAll _ _ hd3) (aJ.mpr ⟨_,_,rfl,bB.mpr ⟨pc,rfl,?_⟩,aL.mpr rfl⟩)
    rw [Ys] at hpc
    rw [Qp]
    exact hpc
   ·rintro ys H3 ⟨s3,hd3⟩ pn hpn
    have hyl:ys.length<=32:=by
     rw [aK hd3,Qa,Jd]
     omega
    refine ⟨q,pn,xs,ys,rfl,rfl,(s3.trans (aC.new hpn)) _ _ hq,aB,bP (by omega),fun pr hpr=>?_⟩
    have s35:=s3.trans ((aC.new (o:=.lst ys) hpn).trans (aC.new (o:=.lst (xs++ys)) hpr))
    refine ⟨pr,xs++ys,_,rfl,s2.trans s35,(s2.trans (s3.trans (aC.new hpn))).free hpr,aB,?_⟩
    rw [oC,hV,Qp,Xl]
    refine bC (s35.denAll _ _ hd) ?_
    have e:xs.length=(cP (aQ i)).length:=by rw [aK hd,Qa]
    rw [e,Jk] at hd3
    exact ((aC.new hpn).trans (aC.new hpr)).denAll _ _ hd3
  ·rintro σ H2 ⟨q,xs,v,rfl,s2,nq,hq,hd⟩
   refine ⟨_,rfl,_,rfl,q,xs,rfl,SqL.of hq,fun pr hpr=>?_⟩
   have e:vG xs (some 1) none=xs.drop 1:=sR xs 1
   rw [e]
   rw [show ((n:Int)).toNat=n by omega,eV,Jc] at hd
   obtain ⟨x,r,rfl,_,hr2⟩:=aJ.mp hd
   exact k pr _ _ (s2.trans (aC.new hpr)) (s2.free hpr) aB ((aC.new hpr).denAll _ _ hr2)
def kA (K:PySem.W.Frag):Sp:=fun vs H Q _=>∃ (x:V) (wp fp:Addr) (us:List V) (n:Int) (ws:List (List Int)) (wt:List Int) (bs:bA),vs = [x,.ref wp,.ref fp]/\Den K H (dZ n ws) x/\SqT K H wp (wt.map V.int)/\Fnd K H fp us n ws wt bs/\∀ H',aC H H'->Q (.bl true) H'
theorem iG:FnScope ["book", "weights", "found", "first", "load", "some", "much", "able", "weight"] ["book", "weights", "found"] (aF lN):=⟨rfl,rfl,rfl,by decide +kernel,rfl,by decide +kernel,by decide +kernel⟩
theorem aAT {f fA fF:Addr} {fd dA dF:FuncData} (G:Fn K mg "_law_afirst_right" lN ["book", "weights", "found"] f fd) (B:Bl mg) (GAs:Fn K mg "_law_asets" qK ["n"] fA dA) (OAs:FnOk P w K mg base CX0 1 fA dA ["n"] (uU K)) (GFs:Fn K mg "first_set" tX ["book", "weights"] fF dF) (OFs:FnOk P w K mg base CX0 8 fF dF ["book", "weights"] (uT K)):FnOk P w K mg base CX0 9 f fd ["book", "weights", "found"] (kA K):=by
 refine G.fn.ok iG (fun vs H Q E h=>?_) (fun cdv A outer s H vs Q E hr h=>?_)
 ·obtain ⟨x,wp,fp,us,n,ws,wt,bs,rfl,_⟩:=h
  rfl
 ·obtain ⟨x,wp,fp,us,n,ws,wt,bs,rfl,hx,hwp,F,k⟩:=h
  have r1:Room 1 _:=hr.mono (by decide)
  have r8:Room 8 _:=hr
  refine ⟨_,(aE (tJ (aY dG (pv 2) aH (fun _ _=>rfl)) (kD rfl (aV (aM (i:=3) iG.nd rfl (Or.inr rfl)) (aV (aM (i:=4) iG.nd rfl (Or.inl rfl)) eA))))
  (aE (fE PassesOwn.never rfl (cG (bK GAs OAs r1 rfl (aA (aY bL (pv 0) aH (fun _ _=>rfl)) aD))) (aM (i:=5) iG.nd rfl (Or.inr rfl))
   (aE (aS (i:=6) iG.nd rfl (Or.inl rfl) aH)
  (aE (fE PassesOwn.never rfl (aD7 .t .t rfl B.zip (aA (aY bL (pv 0) aH (fun _ _=>rfl)) (aA (pv 1) aD))) (kD rfl (aV (aM (i:=7) iG.nd rfl (Or.inl rfl)) (aV (aM (i:=8) iG.nd rfl (Or.inl rfl)) eA)))
   (aI (cY (aW (tO hr.u64) (bR (own:=["hand"]) (fr:=[5]) (frn:=["some"]) (aR (aF lN) ["book", "weights", "found", "first", "load", "some", "much", "able", "weight"] rfl rfl (by decide +kernel)) rfl (gM (pv 7))
    (fun _ _ _ _=>(aM (i:=0) (show (["hand", "some"]:List Str).Nodup by decide +kernel) rfl (Or.inl rfl))) (fun _ _ _ _=>jN (aW (hU (K:=K) rfl) (pv 0) (pv 1) (by with_unfolding_all rfl)))
    (fun _ _ _ _=>(pv 0))) (fG aD) (bJ _))
   (aI (aS (i:=6) iG.nd rfl (Or.inl rfl) (bD iH (pv 6) (pv 8))))
   bO)))
  (aE (cY (aW oM (bD eC (pv 6) (aY bL (pv 4) aH (fun _ _=>rfl))) (bD eC (aY bL (pv 4) aH (fun _ _=>rfl)) (aP aU rfl B.len gG (aA (pv 5) aD))) (bJ _))
   (aI (aT eX))
   bO)
  (aE (cY (PW.pt (xG (aW pK (bD eC (pv 6) (aY bL (pv 4) aH (fun _ _=>rfl))) (bD eC (aY bL (pv 4) aH (fun _ _=>rfl)) (aP aU rfl B.len gG (aA (pv 5) aD))) (bJ _)) (tI (aW (jO hr.u64) (bR (own:=["hand"]) (fr:=[3]) (frn:=["first"]) (aR (aF lN) ["book", "weights", "found", "first", "load", "some", "much", "able", "weight"] rfl rfl (by decide +kernel)) rfl (gM (pv 5))
    (fun _ _ _ _=>(aM (i:=0) (show (["hand", "first"]:List Str).Nodup by decide +kernel) rfl (Or.inl rfl))) (fun _ _ _ _=>jN (aW (hU (K:=K) rfl) (pv 0) (pv 1) (by with_unfolding_all rfl)))
    (fun _ _ _ _=>(pv 0))) (fG aD) (bJ _)))))
   (aI (aT eX))
   bO)
  (aI (cY (PW.pt (xG (aW (tO hr.u64) (pv 5) (pv 3) (bJ _)) (tI (aW vB (bD eC (pv 6) (aY bL (pv 4) aH (fun _ _=>rfl))) (bD eC (aY bL (pv 4) aH (fun _ _=>rfl)) (aP aU rfl B.len gG (aA (pv 5) aD))) (bJ _)))))
   (aI (aT eX))
   bO)))))))
  (aI (aT (jF pK (aP (sQ hr.gd hr.u64) rfl B.repr aBC (aA (bK GFs OFs r8 rfl (aA (pv 0) (aA (pv 1) aD))) aD)) (aP (sQ hr.gd hr.u64) rfl B.repr aBC (aA (pv 3) aD)) (bJ _)))))),?_⟩
  obtain ⟨a,b,ys,rfl,ha,hb,hys⟩:=iZ hx
  have hly:=aK hys
  rw [Qa] at hly
  obtain ⟨hn1,hn6,h12,hws⟩:=cO F.bk
  obtain ⟨RO,RS,RL⟩:=gI F.bk F.wtk
  obtain ⟨c,r,rfl⟩:=aCg hn1 F.blk
  obtain ⟨u,us',rfl,hu,_⟩:=aJ.mp F.den
  obtain ⟨pp,pq,pr,rfl,hpp,hpq,hpr⟩:=hX hu
  have HV:=F.blk.1
  obtain ⟨cl,cm,c0,c2⟩:=oK RO F.blk c (Qk ..)
  rw [aZ] at cl
  have cW:c.2<=1188:=by
   have:=(rC RS (inS c.1)).2
   rw [HV.2.2.1]; omega
  have hk0:(0:Int) < c.1.length:=by omega
  have l1:=uF c2 hk0
  have l2:=pE c2 hk0
  have l3:=lD c.2 hk0
  have l4:=uG (a:=c.2) hk0
  refine ⟨_,rfl,fp,_,0,_,rfl,rfl,SqL.of F.lst,gC (xs:=V.ref pp::us') (j:=0) rfl,pp,_,rfl,hpp,rfl,_,_,rfl,_,_,rfl,rfl,?_⟩
  refine ⟨_,rfl,a,_,0,.int n,rfl,rfl,ha,rfl,n.toNat,by rw [Zq (by omega)]; rfl,by omega,fun sp xs H1 s1 nsp hsp hxs=>?_⟩
  refine ⟨sp,rfl,⟨_,SqL.of hsp⟩,iS (K:=K) (a:=sp) (xs:=xs) (fun i σ H2=>(∃ v5 v6 v7 v8,σ = [some (.ref a),some (.ref wp),some (.ref fp),some (.ref pq),some (.ref pr),v5,v6,v7,v8])/\aC H1 H2) ⟨⟨_,_,_,_,rfl⟩,aC.refl _⟩ (fun i σ H2 _ ⟨_,s2⟩=>SqL.of (s2 _ _ hsp)) ?_ ?_⟩
  ·rintro i xv σ H2 hxv ⟨⟨v5,v6,v7,v8,rfl⟩,s2⟩
   obtain ⟨t,ht,htd⟩:=bM hxs hxv
   obtain ⟨ta,rfl,hta⟩:=bB.mp htd
   have htm:=Qe ht
   have tsub:=sY _ t htm
   have tf:t=(aQ n.toNat).filter (inS t):=wP tsub (iO _)
   have tcnt:eK (aQ n.toNat) (inS t)=t.length:=by unfold eK; rw [<- tf]
   have tl:t.length<=6:=by have:=tsub.length_le; rw [aZ] at this; omega
   have s12:=s1.trans s2
   -- much
   refine ⟨_,rfl,a,_,1,.ref b,rfl,rfl,s12.seqT ha,rfl,_,rfl,b,wp,_,_,rfl,s12.seqT hb,s12.seqT hwp,aCE (K:=K) (k1:=.t) (k2:=.t) (a:=b) (b:=wp) (xs:=ys) (ys:=wt.map V.int) (fun j σ H3=>(∃ v7 v8,σ = [some (.ref a),some (.ref wp),some (.ref fp),some (.ref pq),some (.ref pr),some (.ref ta),some (.int (wIn ((ws.zip wt).take j) (inS t))),v7,v8])/\aC H2 H3) (by rw [Qa,F.wtk.1,hly]) ⟨⟨_,_,rfl⟩,aC.refl _⟩ (fun j σ H3 _ ⟨_,s3⟩=>⟨(s12.trans s3).seqT hb,(s12.trans s3).seqT hwp⟩) ?_ ?_⟩
   ·rintro j x1 x2 q σ H3 h1 h2 ⟨⟨v7,v8,rfl⟩,s3⟩ hq
    obtain ⟨l,hl1,hl2⟩:=bM hys h1
    obtain ⟨al,rfl,hal⟩:=bB.mp hl2
    obtain ⟨y,hy,rfl⟩:=eQ h2
    have hzip:(ws.zip wt)[j]?=some (l,y):=by rw [Xu]; exact ⟨hl1,hy⟩
    obtain ⟨w1,w2,w3⟩:=jA (hws l (Qe hl1))
    have hl6:=jB (by omega) w2 w3
    have sq:=s3.trans (aC.new (o:=.tup [.ref al,.int y]) hq)
    have eq:upd H3 q (.tup [.ref al,.int y]) q=some (.tup [.ref al,.int y]):=aB
    generalize upd H3 q (.tup [.ref al,.int y])=H4 at sq eq ⊢
    have s14:=s12.trans sq
    refine ⟨q,_,rfl,SqT.of eq,rfl,_,_,rfl,_,_,rfl,rfl,?_⟩
    refine ⟨_,rfl,al,rfl,⟨_,s14.seqT hal⟩,iB (K:=K) (a:=al) (xs:=l.map V.int) (fun σ=>∃ v,σ = [v,some (.ref ta)]) (fun m cs H5=>H5=H4/\cs=((l.take m).filter fun h=>!inS t h).map V.int) (bP (by rw [Qa]; omega)) ⟨none,rfl⟩ ⟨rfl,rfl⟩ ?_ (fun m cs H5 ⟨e,_⟩=>by rw [e]; exact s14.seqT hal) ?_ ?_⟩
    ·rintro m cs H5 ⟨_,rfl⟩
     rw [Qa]
     exact Qt (Je _ _) (by rw [Jd]; exact Jt _ _)
    ·rintro m cs σ yv H5 hyv ⟨v,rfl⟩ ⟨rfl,rfl⟩ hz
     obtain ⟨h,hh,rfl⟩:=eQ hyv
     refine ⟨_,rfl,_,rfl,ta,t.map V.int,rfl,.inr ((s2.trans sq).seqT hta),rfl,jV _,_,rfl,?_⟩
     have e:(!inV (.int h) (t.map V.int))=!inS t h:=kQ h t
     show if (!inV (.int h) (t.map V.int))=true then _ else _
     rw [e,bQ hh,Xj,Qp]
     cases hc:inS t h with
     | false =>
      refine iT ⟨_,rfl,hz,⟨_,rfl⟩,rfl,?_⟩
      rw [Qw,hc]; rfl
     | true =>
      refine eF ⟨⟨_,rfl⟩,rfl,?_⟩
      rw [Qw,hc]
      show _=_++[]
      rw [Jw]
    ·rintro cs H5 ⟨rfl,rfl⟩ pl hpl
     rw [Qa,Jk]
     refine ⟨bP (Jf _),fun pe hpe=>?_⟩
     have s5:=(aC.new (o:=.lst ((l.filter fun h=>!inS t h).map V.int)) hpl).trans (aC.new (o:=.lst []) hpe)
     refine ⟨.list ((l.filter fun h=>!inS t h).map .int),.list [],bT.mpr ⟨pl,_,rfl,(aC.new hpe).seqL (SqL.of aB),cK.mpr rfl⟩,bT.mpr ⟨pe,[],rfl,SqL.of aB,aL.mpr rfl⟩,cC _,cC [],cF _,cF [],_,rfl,?_⟩
     rw [rK,List.isEmpty_map]
     have hall:(l.filter fun h=>!inS t h).isEmpty=l.all (inS t):=by
      rw [Jl,List.isEmpty_iff,Wf,Qu]
      exact ⟨fun z h hh=>by have:=z h hh; cases q2:inS t h with
       | true=>rfl
       | false=>rw [q2] at this; exact absurd rfl this,fun z h hh=>by rw [z h hh]; decide⟩
     rw [hall,bQ hzip,aCe]
     cases hc:l.all (inS t) with
     | true =>
      refine iT ⟨_,rfl,_,rfl,_,_,rfl,rfl,?_⟩
      exact ⟨⟨_,_,rfl⟩,sq.trans s5⟩
     | false =>
      refine eF ?_
      show (∃ v7 v8,_ = [_,_,_,_,_,_,some (V.int (_+0)),v7,v8])/\_
      rw [Wx]
      exact ⟨⟨_,_,rfl⟩,sq.trans s5⟩
   ·rintro σ H3 ⟨⟨v7,v8,rfl⟩,s3⟩
    have hfull:(ws.zip wt).take ys.length=ws.zip wt:=Xe (by rw [Wj]; omega)
    rw [hfull]
    have hW:=rC RS (inS t)
    have hle:wIn (ws.zip wt) (inS t)*(bU (c.2,(c.1.length:Int))).2<=(bU (c.2,(c.1.length:Int))).1*t.length:=(oJ (x:=(c.2,(c.1.length:Int))) hk0 _ _).1.mpr (by have:=(HV.2.2.2 (inS t)).1; rw [tcnt] at this; exact this)
    have htight:wIn (ws.zip wt) (inS t)*(bU (c.2,(c.1.length:Int))).2=(bU (c.2,(c.1.length:Int))).1*t.length->∀ h∈t,h∈c.1:=fun z h hh=>by
     have z':=(oJ (x:=(c.2,(c.1.length:Int))) hk0 (wIn (ws.zip wt) (inS t)) t.length).2.mp z
     exact mI RO HV (p:=inS t) (by rw [tcnt]; exact z') h (tsub.subset hh) (bH.mpr hh)
    have hsame:t=c.1->wIn (ws.zip wt) (inS t)*(bU (c.2,(c.1.length:Int))).2=(bU (c.2,(c.1.length:Int))).1*t.length:=fun z=>(oJ (x:=(c.2,(c.1.length:Int))) hk0 _ _).2.mpr (by rw [z]; show wIn _ _*(c.1.length:Int)=c.2*_; rw [<- HV.2.2.1])
    have l1':0<=(bU (c.2,(c.1.length:Int))).1:=l1
    have l2':(bU (c.2,(c.1.length:Int))).1<=c.2:=l2
    have l3':0 < (bU (c.2,(c.1.length:Int))).2:=l3
    have l4':(bU (c.2,(c.1.length:Int))).2<=c.1.length:=l4
    generalize hWg:wIn (ws.zip wt) (inS t)=W at hW hle htight hsame ⊢
    generalize (bU (c.2,(c.1.length:Int))).1=A0 at hle htight hsame l1' l2' hpr ⊢
    generalize (bU (c.2,(c.1.length:Int))).2=B0 at hle htight hsame l3' l4' hpr ⊢
    have s13:=s12.trans s3
    have m1:wR W B0:=⟨dU (by omega),dU (by omega)⟩
    have m2:wR A0 ((t.map V.int).length:Int):=⟨dU (by omega),dU (by rw [Qa]; omega)⟩
    have hpr3:=s13.seqT hpr
    have hta3:=(s2.trans s3).seqT hta
    have etl:(((t.map V.int).length:Nat):Int)=t.length:=by rw [Qa]
    refine ⟨_,rfl,_,rfl,pr,_,1,_,rfl,rfl,hpr3,rfl,_,_,rfl,rfl,m1,_,rfl,pr,_,0,_,rfl,rfl,hpr3,rfl,_,rfl,ta,_,rfl,.inr hta3,_,_,rfl,rfl,m2,_,_,rfl,rfl,_,rfl,?_⟩
    rw [etl]
    refine aBU (decide_eq_false (by omega)) ?_
    dsimp only [aDu,aEw,aEy]
    refine aCf (W*B0=A0*t.length) (fun R hR=>?_) (fun hP H4 s4 R hR=>?_) (fun H4 s4=>?_)
    ·refine ⟨_,rfl,_,rfl,pr,_,1,_,rfl,rfl,hpr3,rfl,_,_,rfl,rfl,m1,_,rfl,pr,_,0,_,rfl,rfl,hpr3,rfl,_,rfl,ta,_,rfl,.inr hta3,_,_,rfl,rfl,m2,rfl,_,rfl,?_⟩
     rw [etl]
     exact hR _ _ (aC.refl _) fun z=>by simpa using z
    ·have ht4:=s4.seqT hta3
     refine ⟨_,rfl,ta,rfl,⟨_,ht4⟩,iB (K:=K) (a:=ta) (xs:=t.map V.int) (fun σ=>∃ v,σ = [v,some (.ref pq)]) (fun m cs H5=>H5=H4/\cs = []) (bP (by rw [Qa]; omega)) ⟨none,rfl⟩ ⟨rfl,rfl⟩ (fun m cs H5 ⟨_,e⟩=>by rw [e]; exact Jf _) (fun m cs H5 ⟨e,_⟩=>by rw [e]; exact ht4) ?_ ?_⟩
     ·rintro m cs σ yv H5 hyv ⟨v,rfl⟩ ⟨rfl,rfl⟩ hz
      obtain ⟨h,hh,rfl⟩:=eQ hyv
      refine ⟨_,rfl,_,rfl,pq,c.1.map V.int,rfl,.inr ((s13.trans s4).seqT hpq),rfl,jV _,_,rfl,?_⟩
      have e:(!inV (.int h) (c.1.map V.int))=false:=by rw [kQ,bH.mpr (htight hP h (Qe hh))]; rfl
      show if (!inV (.int h) (c.1.map V.int))=true then _ else _
      rw [e]
      exact eF ⟨⟨_,rfl⟩,rfl,rfl⟩
     ·rintro cs H5 ⟨rfl,rfl⟩ pl hpl
      refine ⟨bP (Jf _),fun pe hpe=>?_⟩
      refine ⟨.list (([]:List Int).map .int),.list [],bT.mpr ⟨pl,[],rfl,(aC.new hpe).seqL (SqL.of aB),aL.mpr rfl⟩,bT.mpr ⟨pe,[],rfl,SqL.of aB,aL.mpr rfl⟩,cC [],cC [],cF [],cF [],_,rfl,?_⟩
      rw [rK]
      exact hR _ ((aC.new hpl).trans (aC.new hpe))
    ·refine eF ?_
     have s14:=s13.trans s4
     have ht4:=s4.seqT hta3
     have hpr4:=s4.seqT hpr3
     refine aCf (t=c.1) (fun R hR=>?_) (fun hP H5 s5 R hR=>?_) (fun H5 s5=>?_)
     ·refine ⟨_,rfl,_,rfl,bN t,bN c.1,bB.mpr ⟨ta,rfl,ht4⟩,bB.mpr ⟨pq,rfl,s14.seqT hpq⟩,dQ _,dQ _,gT _,gT _,_,rfl,?_⟩
      have e:PyData.eqv (bN t) (bN c.1)=decide (t=c.1):=lP t c.1
      rw [e]
      exact hR _ _ (aC.refl _) of_decide_eq_true
     ·refine ⟨_,rfl,_,rfl,pr,_,1,_,rfl,rfl,s5.seqT hpr4,rfl,_,_,rfl,rfl,m1,_,rfl,pr,_,0,_,rfl,rfl,s5.seqT hpr4,rfl,_,rfl,ta,_,rfl,.inr (s5.seqT ht4),_,_,rfl,rfl,m2,rfl,_,rfl,?_⟩
      rw [etl]
      have e:(!decide (V.int (W*B0)=V.int (A0*(t.length:Int))))=false:=by rw [hsame hP]; exact zO _
      show R (!decide (V.int (W*B0)=V.int (A0*(t.length:Int)))) _
      rw [e]
      exact hR _ (aC.refl _)
     ·exact eF ⟨⟨_,_,_,_,rfl⟩,s2.trans (s3.trans (s4.trans s5))⟩
  ·rintro σ H2 ⟨⟨v5,v6,v7,v8,rfl⟩,s2⟩
   have s12:=s1.trans s2
   have h10:∀ x∈c.1,0<=x/\x < 10:=fun x hx=>by have:=cH.mp (cm x hx); omega
   have hsh:=aAS h10
   have hszl:(bN c.1).shown.length<=sizeLine:=by rw [sizeLine_eq]; exact Qt hsh (by omega)
   refine ⟨_,rfl,_,rfl,_,n,ws,wp,wt,rfl,s12.den _ _ hx,F.bk,s12.seqT hwp,F.wtk,fun p b' r' H3 s3 hp hbl=>?_⟩
   have eb:b'=c:=by
    have:=jE RO hbl F.blk
    injection this
   rw [eb] at hp
   refine ⟨bN c.1,p,rfl,bB.mpr ⟨p,rfl,hp⟩,dQ _,PyData.hasDict_of_canLay _ (gS _),nJ h10,Qt (iD _) (by decide),hszl,_,rfl,bN c.1,pq,rfl,bB.mpr ⟨pq,rfl,(s12.trans s3).seqT hpq⟩,dQ _,PyData.hasDict_of_canLay _ (gS _),nJ h10,Qt (iD _) (by decide),hszl,rfl,?_⟩
   have e:decide (V.str (bN c.1).shown=V.str (bN c.1).shown)=true:=decide_eq_true rfl
   show Q (.bl (decide (V.str (bN c.1).shown=V.str (bN c.1).shown))) _
   rw [e]
   exact k _ (s12.trans s3)
theorem oW {X:Cx} {K:PySem.W.Frag} (hK:X.K=K):eY X (.builtin "isinstance") (fun xs H Q=>∃ x k,xs = [x,.ty "tuple"]/\KdV K H x k/\Q (.bl (decide (k=.tup))) H):=by subst hK; exact cS
theorem aCj (m:Nat):inV (.bl false) ((List.replicate m true).map V.bl)=false:=by
 unfold inV
 rw [Yt,List.any_eq_false]
 intro x hx
 rw [Zu hx]
 decide
theorem xE (l:List Bool):(l.map V.bl).all lY=true:=by
 rw [Wh]
 exact Qu.mpr fun _ _=>rfl
theorem lV {a b:List Int} (p:a.Perm b) (h1:a.Pairwise (·<=·)) (h2:b.Pairwise (·<=·)):a=b:=List.Perm.eq_of_pairwise (fun x y _ _ h h'=>Int.le_antisymm h h') h1 h2 p
theorem uV (n:Nat):(aQ n).Pairwise (·<=·):=(qP n).imp fun h=>Zh h
def gB (bs:bA):List Int:=(bs.map (·.1)).flatten
theorem tG:∀ {bs:bA} {left:List Int} {rows:bA},bX left rows bs->(gB bs).Perm left
 | [],left,_,h=>by rw [show left = [] from h]; exact List.Perm.refl _
 | b::bs,left,rows,h=>by
  have ih:=tG h.2
  show (b.1++gB bs).Perm left
  have e:b.1=left.filter (inS b.1):=h.1.2.1
  refine (List.Perm.append_left b.1 ih).trans ?_
  conv=>lhs; arg 1; rw [e]
  exact List.filter_append_perm _ _
theorem rM (bs:bA) (b:List Int×Int):gB (bs++[b])=gB bs++b.1:=by
 unfold gB
 rw [Qp,Ws]
 show _++(b.1++[])=_
 rw [Jw]
theorem xF:∀ {bs:bA} {left:List Int} {rows:bA},bX left rows bs->∀ (i:Nat) b c,bs[i]?=some b->bs[i+1]?=some c->jL (c.2,(c.1.length:Int)) (b.2,(b.1.length:Int))=true
 | [],_,_,_,i,b,c,h,_=>by simp at h
 | d::bs,left,rows,h,i,b,c,h1,h2=>by
  cases i with
  | zero =>
   have e:d=b:=by simpa using h1
   subst e
   have h2':bs[0]?=some c:=by simpa using h2
   exact decide_eq_true (qU h.1 h.2 c (Qe h2')).2
  | succ i=>exact xF h.2 i b c (by simpa using h1) (by simpa using h2)
theorem aDH:∀ {bs:bA} {left:List Int} {rows:bA},cU left rows->bX left rows bs->∀ c∈bs,∀ h∈c.1,eL bs h=(c.2,(c.1.length:Int))
 | [],_,_,_,_,c,hc,_,_=>by cases hc
 | b::bs,left,rows,ok,hb,c,hc,h,hh=>by
  rcases Ql.mp hc with rfl | hc
  ·exact kN (bH.mpr hh)
  ·have:=(lT ok.redu hb.2 c hc).2.2.2 h hh
   have:=(Qr.mp this).2
   have q:inS b.1 h=false:=by cases z:inS b.1 h with
    | true=>rw [z] at this; cases this
    | false=>rfl
   rw [jX q]
   exact aDH ok.redu hb.2 c hc h hh
theorem rN {n:Nat}:∀ {bs:bA} {left:List Int} {rows:bA},List.Sublist left (aQ n)->bX left rows bs->∀ b∈bs,b.1.Pairwise (·<=·)
 | [],_,_,_,_,b,hb=>by cases hb
 | c::bs,left,rows,hl,h,b,hb=>by
  rcases Ql.mp hb with rfl | hb
  ·rw [h.1.2.1]
   exact (uV n).sublist ((Zr).trans hl)
  ·exact rN ((Zr).trans hl) h.2 b hb
theorem uW {c:List Int×Int} {n:Int} (h0:0 < c.1.length) (h1:c.1.length<=6) (h2:0<=c.2) (h3:c.2<=1188):aC6 (bU (c.2,(c.1.length:Int)))/\0<=(bU (c.2,(c.1.length:Int))).1/\(bU (c.2,(c.1.length:Int))).2<=6/\bU (bU (c.2,(c.1.length:Int)))=bU (c.2,(c.1.length:Int)):=by
 have hk:(0:Int) < c.1.length:=by omega
 have p1:=lD c.2 hk
 have p2:=uG (a:=c.2) hk
 have p3:=uF h2 hk
 have p4:=pE h2 hk
 have d:=aC3 c.2 hk
 refine ⟨⟨p1,Xm (show (bU (c.2,(c.1.length:Int))).2<=6 by show gD c.2 (c.1.length:Int)<=6; omega) (by decide),Zd (show (bU (c.2,(c.1.length:Int))).1.natAbs<=1188 by show (fQ c.2 (c.1.length:Int)).natAbs<=1188; omega) (by decide)⟩,p3,by show gD c.2 (c.1.length:Int)<=6; omega,Prod.ext d.1 d.2⟩
theorem yD:∀ {bs:bA} {left:List Int} {rows:bA},RwS rows->bX left rows bs->∀ b∈bs,b.2<=rows.length*99
 | [],_,_,_,_,b,hb=>by cases hb
 | c::bs,left,rows,rs,h,b,hb=>by
  rcases Ql.mp hb with rfl | hb
  ·rw [h.1.2.2.1]; exact (rC rs _).2
  ·have h1:=yD rs.redu h.2 b hb
   have h2:=rE rows c.1
   omega
theorem gX:FnScope ["book", "weights", "found", "every", "some", "load", "k", "heaps"] ["book", "weights", "found"] (aF kI):=⟨rfl,rfl,rfl,by decide +kernel,rfl,by decide +kernel,by decide +kernel⟩
set_option maxHeartbeats 4000000 in
theorem aAU {f fF fL fA fN fI fR:Addr} {fd dF dL dA dN dI dR:FuncData} (G:Fn K mg "_law_aright" kI ["book", "weights", "found"] f fd) (B:Bl mg) (GFr:Fn K mg "_law_afraction" tZ ["thing"] fF dF) (OFr:FnOk P w K mg base CX0 2 fF dF ["thing"] (uJ K)) (GLo:Fn K mg "_law_alow" wJ ["a", "b"] fL dL) (OLo:FnOk P w K mg base CX0 1 fL dL ["a", "b"] iE) (GAh:Fn K mg "_law_awhole" mV ["found"] fA dA) (OAh:FnOk P w K mg base CX0 1 fA dA ["found"] nC)
  (GNm:Fn K mg "_law_ano_more" mW ["one", "other"] fN dN) (ONm:FnOk P w K mg base CX0 1 fN dN ["one", "other"] (qZ K)) (GIp:Fn K mg "in_parts" gH ["book", "weights"] fI dI) (OIp:FnOk P w K mg base CX0 9 fI dI ["book", "weights"] (oI K)) (GFi:Fn K mg "_law_afirst_right" lN ["book", "weights", "found"] fR dR) (OFi:FnOk P w K mg base CX0 9 fR dR ["book", "weights", "found"] (kA K)):FnOk P w K mg base CX0 10 f fd ["book", "weights", "found"] (kA K):=by
 refine G.fn.ok gX (fun vs H Q E h=>?_) (fun cdv A outer s H vs Q E hr h=>?_)
 ·obtain ⟨x,wp,fp,us,n,ws,wt,bs,rfl,_⟩:=h
  rfl
 ·obtain ⟨x,wp,fp,us,n,ws,wt,bs,rfl,hx,hwp,F,k⟩:=h
  have r9:Room 9 _:=hr
  have r2:Room 2 _:=hr.mono (by decide)
  have r1:Room 1 _:=hr.mono (by decide)
  refine ⟨_,(aE (cY (PW.pt (iJ (eZ (eD (aP rQ rfl B.isinstance kS (aA (pv 2) (aA (gJ (v:=.ty "list") rfl B.list qD rfl) aD))))) (iR (aW lI eX (bR (own:=["pair"]) (fr:=[]) (frn:=[]) (aR (aF kI) ["book", "weights", "found", "every", "some", "load", "k", "heaps"] rfl rfl (by decide +kernel)) rfl (cG (pv 2))
    (fun _ _ _ _=>(aM (i:=0) (show (["pair"]:List Str).Nodup by decide +kernel) rfl (Or.inl rfl))) (fun _ _ _ _=>cI)
    (fun _ _ _ _=>(nP (aP (oW (K:=K) rfl) rfl B.isinstance kS (aA (pv 0) (aA (gJ (v:=.ty "tuple") rfl B.tuple cX rfl) aD))) (nO (jF pK (aP (rY (K:=K) rfl) rfl B.len gG (aA (pv 0) aD)) aH (bJ _)))))) (by with_unfolding_all rfl)))))
   (aI (aT eX))
   bO)
  (aE (aS (i:=3) gX.nd rfl (Or.inl rfl) (fG aD))
  (aE (fE PassesOwn.never rfl (cG (pv 2)) (kD rfl (aV (aM (i:=4) gX.nd rfl (Or.inl rfl)) (aV (aM (i:=5) gX.nd rfl (Or.inr rfl)) eA)))
   (aE (cY (PW.pt (iJ (eZ (eD (aP cS rfl B.isinstance kS (aA (pv 4) (aA (gJ (v:=.ty "tuple") rfl B.tuple cX rfl) aD))))) (iJ (aW (tO hr.u64) (pv 4) (eE aD) (bJ _)) (iJ (aW (jO hr.u64) (bZ mK rfl B.list qD (aA (pv 4) aD)) (aP kX rfl B.sorted mS (aA (pv 4) aD)) (bJ _)) (iR (eZ (eD (bK GFr OFr r2 rfl (aA (pv 5) aD)))))))))
   (aI (aT eX))
   bO)
  (aE (cY (aW (jO hr.u64) (bK GLo OLo r1 rfl (aA (aY bL (pv 5) aH (fun _ _=>rfl)) (aA (aY bL (pv 5) aH (fun _ _=>rfl)) aD))) (pv 5) (bJ _))
   (aI (aT eX))
   bO)
  (aI (aS (i:=3) gX.nd rfl (Or.inl rfl) (bD pO (pv 3) (bZ mK rfl B.list qD (aA (pv 4) aD))))))))
  (aE (cY (PW.pt (iJ (aW (jO hr.u64) (aP kX rfl B.sorted mS (aA (pv 3) aD)) (bZ (mB rfl) rfl B.list qD (aA (bZ oO rfl B.range zC (aA (aY bL (pv 0) aH (fun _ _=>rfl)) aD)) aD)) (bJ _)) (iR (aW lI eX (bR (own:=["hand"]) (fr:=[]) (frn:=[]) (aR (aF kI) ["book", "weights", "found", "every", "some", "load", "k", "heaps"] rfl rfl (by decide +kernel)) rfl (cG (pv 3))
    (fun _ _ _ _=>(aM (i:=0) (show (["hand"]:List Str).Nodup by decide +kernel) rfl (Or.inl rfl))) (fun _ _ _ _=>cI)
    (fun _ _ _ _=>(bK GAh OAh r1 rfl (aA (pv 0) aD)))) (by with_unfolding_all rfl)))))
   (aI (aT eX))
   bO)
  (aE (fE PassesOwn.never rfl (sF rfl B.range (aA aH (aA (aP aU rfl B.len gG (aA (pv 2) aD)) aD))) (aM (i:=6) gX.nd rfl (Or.inl rfl))
   (aI (cY (eD (bK GNm ONm r1 rfl (aA (aY bL (aY dG (pv 2) (bD xJ (pv 6) aH) (fun _ _=>rfl)) aH (fun _ _=>rfl)) (aA (aY bL (aY dG (pv 2) (pv 6) (fun _ _=>rfl)) aH (fun _ _=>rfl)) aD))))
   (aI (aT eX))
   bO)))
  (aE (aS (i:=7) gX.nd rfl (Or.inr rfl) (aY bL (bK GIp OIp r9 rfl (aA (pv 0) (aA (pv 1) aD))) aH (fun _ _=>rfl)))
  (aE (fE PassesOwn.never rfl (cG (pv 2)) (kD rfl (aV (aM (i:=4) gX.nd rfl (Or.inl rfl)) (aV (aM (i:=5) gX.nd rfl (Or.inr rfl)) eA)))
   (aI (cY (aW (jO hr.u64) (bR (own:=["hand"]) (fr:=[7,5]) (frn:=["heaps", "load"]) (aR (aF kI) ["book", "weights", "found", "every", "some", "load", "k", "heaps"] rfl rfl (by decide +kernel)) rfl (gM (pv 4))
    (fun _ _ _ _=>(aM (i:=0) (show (["hand", "heaps", "load"]:List Str).Nodup by decide +kernel) rfl (Or.inl rfl))) (fun _ _ _ _=>jN (aW (aCI (K:=K) rfl hr.u64) (aY (jK (K:=K) rfl) (pv 1) (pv 0) (fun _ _=>rfl)) (pv 2) (bJ _)))
    (fun _ _ _ _=>(pv 0))) (fG aD) (bJ _))
   (aI (aT eX))
   bO)))
  (aI (aT (bK GFi OFi r9 rfl (aA (pv 0) (aA (pv 1) (aA (pv 2) aD))))))))))))),?_⟩
  obtain ⟨a,b,ys,rfl,ha,hb,hys⟩:=iZ hx
  obtain ⟨hn1,hn6,h12,hws⟩:=cO F.bk
  obtain ⟨RO,RS,RL⟩:=gI F.bk F.wtk
  have hfl:=tG F.blk
  have hblk:∀ c∈bs,0 < c.1.length/\c.1.length<=6/\(∀ h∈c.1,0<=h/\h < n)/\0<=c.2/\c.2<=1188:=fun c hc=>by
   obtain ⟨a1,a2,a3,a4⟩:=oK RO F.blk c hc
   rw [aZ] at a1
   have:=yD RS F.blk c hc
   exact ⟨a3,by omega,fun h hh=>by have:=cH.mp (a2 h hh); omega,a4,by omega⟩
  have hul:=F.len
  have hbl:bs.length<=6:=by
   have h1:bs.length<=(gB bs).length:=by
    have key:∀ l:bA,(∀ c∈l,0 < c.1.length)->l.length<=(gB l).length:=by
     intro l
     induction l with
     | nil=>intro _; exact Jf _
     | cons c l ih =>
      intro h
      have h1:=h c (Qk ..)
      have h2:=ih fun d hd=>h d (Qq _ hd)
      show l.length+1<=(c.1++gB l).length
      rw [Qv]; omega
    exact key bs fun c hc=>(hblk c hc).1
   rw [hfl.length_eq,aZ] at h1
   omega
  refine ⟨_,rfl,.ref fp,.lst,rfl,(bT.mpr ⟨fp,us,rfl,SqL.of F.lst,F.den⟩:Den K H (.list (bs.map fZ)) (.ref fp)).kd,_,rfl,eF ?_⟩
  refine ⟨_,rfl,fp,rfl,⟨_,SqL.of F.lst⟩,mR (K:=K) (a:=fp) (xs:=us) (vs:=(List.replicate us.length true).map V.bl) (fun σ=>∃ v,σ = [v]) (by omega) (by simp) (SqL.of F.lst) ⟨none,rfl⟩ ?_ ?_⟩
  ·rintro i u v σ H1 hu hv ⟨v0,rfl⟩ s1 Q' k'
   rw [xX hv] at k'
   obtain ⟨c,hc,hcd⟩:=bM (s1.denAll _ _ F.den) hu
   have hkd:=hcd.kd
   obtain ⟨pp,pq,pr,rfl,hpp,hpq,hpr⟩:=hX hcd
   refine ⟨_,rfl,.ref pp,.tup,rfl,hkd,_,rfl,iT ?_⟩
   exact ⟨_,rfl,pp,_,rfl,.inr hpp,rfl,k' _ _ ⟨_,rfl⟩ (aC.refl _)⟩
  ·intro H1 s1 pb hpb
   have s2:=s1.trans (aC.new (o:=.lst ((List.replicate us.length true).map V.bl)) hpb)
   refine ⟨pb,_,rfl,.inl (SqL.of aB),rfl,xE _,_,rfl,?_⟩
   show if inV (.bl false) ((List.replicate us.length true).map V.bl)=true then _ else _
   rw [aCj]
   refine eF ?_
   generalize upd H1 pb (.lst ((List.replicate us.length true).map V.bl))=H2 at s2 ⊢
   refine ⟨bP (Jf _),fun e0 he0=>?_⟩
   have s3:=s2.trans (aC.new (o:=.lst []) he0)
   have ee:upd H2 e0 (.lst []) e0=some (.lst ((gB (bs.take 0)).map V.int)):=aB
   generalize upd H2 e0 (.lst [])=H3 at s3 ee ⊢
   -- each block
   refine ⟨_,rfl,fp,rfl,⟨_,SqL.of (s3 _ _ F.lst)⟩,iS (K:=K) (a:=fp) (xs:=us) (fun j σ H4=>(∃ ep v4 v5 v6 v7,σ = [some (.ref a),some (.ref wp),some (.ref fp),some (.ref ep),v4,v5,v6,v7]/\H4 ep=some (.lst ((gB (bs.take j)).map V.int)))/\aC H H4) ⟨⟨e0,_,_,_,_,rfl,ee⟩,s3⟩ (fun j σ H4 _ ⟨_,s4⟩=>SqL.of (s4 _ _ F.lst)) ?_ ?_⟩
   ·rintro j xv σ H4 hxv ⟨⟨ep,v4,v5,v6,v7,rfl,hep⟩,s4⟩
    obtain ⟨c,hc,hcd⟩:=bM (s4.denAll _ _ F.den) hxv
    obtain ⟨pp,pq,pr,rfl,hpp,hpq,hpr⟩:=hX hcd
    have hcm:=Qe hc
    obtain ⟨c1,c2,c3,c4,c5⟩:=hblk c hcm
    obtain ⟨f1,f2,f3,f4⟩:=uW (n:=n) c1 c2 c4 c5
    have csort:=rN (List.Sublist.refl _) F.blk c hcm
    refine ⟨pp,_,rfl,hpp,rfl,_,_,rfl,_,_,rfl,rfl,?_⟩
    refine ⟨_,rfl,.ref pq,.tup,rfl,(bB.mpr ⟨pq,rfl,hpq⟩:Den K H4 (bN c.1) (.ref pq)).kd,_,rfl,eF ?_⟩
    refine ⟨_,rfl,bP (Jf _),fun z0 hz0=>?_⟩
    have s5:=aC.new (o:=.tup []) hz0
    refine ⟨bN c.1,bN [],bB.mpr ⟨pq,rfl,s5.seqT hpq⟩,bB.mpr ⟨z0,rfl,SqT.of aB⟩,dQ _,dQ _,gT _,gT _,_,rfl,?_⟩
    have e1:PyData.eqv (bN c.1) (bN [])=false:=(lP c.1 []).trans (decide_eq_false (fun z=>by rw [z] at c1; exact absurd c1 (by decide)))
    rw [e1]
    refine eF ?_
    generalize upd H4 z0 (.tup [])=H5 at s5 ⊢
    refine ⟨_,rfl,pq,_,rfl,.inr (s5.seqT hpq),fun l0 hl0=>?_⟩
    have s6:=aC.new (o:=.lst (c.1.map V.int)) hl0
    refine ⟨_,rfl,pq,c.1,rfl,.inr ((s5.trans s6).seqT hpq),by omega,fun l1 ms hl1 hpm hps=>?_⟩
    have ems:ms=c.1:=lV hpm hps csort
    subst ems
    have s7:=aC.new (o:=.lst (c.1.map V.int)) hl1
    refine ⟨.list (c.1.map .int),.list (c.1.map .int),bT.mpr ⟨l0,_,rfl,s7.seqL (SqL.of aB),cK.mpr rfl⟩,bT.mpr ⟨l1,_,rfl,SqL.of aB,cK.mpr rfl⟩,cC _,cC _,cF _,cF _,_,rfl,?_⟩
    rw [oA,decide_eq_true rfl]
    refine eF ?_
    have s47:=s5.trans (s6.trans s7)
    generalize upd (upd H5 l0 (.lst (c.1.map V.int))) l1 (.lst (c.1.map V.int))=H7 at s47 ⊢
    have hpr7:=s47.seqT hpr
    refine ⟨_,rfl,pr,_,rfl,hpr7,f2,f1.1,_,rfl,eF ?_⟩
    refine ⟨_,rfl,pr,_,0,_,rfl,rfl,hpr7,rfl,_,rfl,pr,_,1,_,rfl,rfl,hpr7,rfl,_,_,rfl,f1.1,Xm (show (bU (c.2,(c.1.length:Int))).2<=2^10 by omega) (by decide),fun pl hpl=>?_⟩
    have s8:=s47.trans (aC.new (o:=.tup [.int (fQ (bU (c.2,(c.1.length:Int))).1 (bU (c.2,(c.1.length:Int))).2),.int (gD (bU (c.2,(c.1.length:Int))).1 (bU (c.2,(c.1.length:Int))).2)]) hpl)
    refine ⟨_,rfl,eM (bU (bU (c.2,(c.1.length:Int)))),eM (bU (c.2,(c.1.length:Int))),fX.mpr ⟨pl,rfl,SqT.of aB⟩,fX.mpr ⟨pr,rfl,s8.seqT hpr⟩,iF _,iF _,jM _,jM _,_,rfl,?_⟩
    rw [rL,decide_eq_true f4]
    refine eF ?_
    generalize upd H7 pl _=H8 at s8 ⊢
    have hep8:=s8 _ _ hep
    refine ⟨_,rfl,_,rfl,pq,_,rfl,.inr (s8.seqT hpq),fun l2 hl2=>⟨ep,l2,_,_,rfl,rfl,(aC.new hl2) _ _ hep8,aB,?_,fun l3 hl3=>?_⟩⟩
    ·rw [Qa,Qa]
     have hsub:(gB (bs.take (j+1))).length<=6:=by
      have:(gB (bs.take (j+1))).length<=(gB bs).length:=by
       have e:gB bs=gB (bs.take (j+1))++gB (bs.drop (j+1)):=by unfold gB; rw [<- Ws,<- Qp,List.take_append_drop]
       rw [e,Qv]
       exact Xq _ _
      rw [hfl.length_eq,aZ] at this
      omega
     rw [bQ hc,rM,Qv] at hsub
     exact bP (by omega)
    ·refine ⟨⟨l3,_,_,_,_,rfl,?_⟩,s4.trans (s8.trans ((aC.new hl2).trans (aC.new hl3)))⟩
     rw [aB,bQ hc,rM,Qp]
   ·rintro σ H4 ⟨⟨ep,v4,v5,v6,v7,rfl,hep⟩,s4⟩
    rw [hul,Jk] at hep
    -- all hands,each once
    refine ⟨_,rfl,ep,gB bs,rfl,.inl (SqL.of hep),by rw [hfl.length_eq,aZ]; omega,fun l1 ms hl1 hpm hps=>?_⟩
    have ems:ms=aQ n.toNat:=lV (hpm.trans hfl) hps (uV _)
    subst ems
    have s5:=aC.new (o:=.lst ((aQ n.toNat).map V.int)) hl1
    refine ⟨_,rfl,a,_,0,.int n,rfl,rfl,(s4.trans s5).seqT ha,rfl,n,rfl,fun pr hpr=>⟨pr,n.toNat,rfl,by rw [aB,Zq (by omega)],by omega,fun l2 hl2=>?_⟩⟩
    have s7:=(aC.new (o:=.rng 0 n) hpr).trans (aC.new (o:=.lst ((aQ n.toNat).map V.int)) hl2)
    refine ⟨.list ((aQ n.toNat).map .int),.list ((aQ n.toNat).map .int),bT.mpr ⟨l1,_,rfl,s7.seqL (SqL.of aB),cK.mpr rfl⟩,bT.mpr ⟨l2,_,rfl,SqL.of aB,cK.mpr rfl⟩,cC _,cC _,cF _,cF _,_,rfl,?_⟩
    rw [oA,decide_eq_true rfl]
    refine eF ?_
    have s47:=s5.trans s7
    generalize upd (upd (upd H4 l1 (.lst ((aQ n.toNat).map V.int))) pr (.rng 0 n)) l2 (.lst ((aQ n.toNat).map V.int))=H7 at s47 ⊢
    have hep7:=s47 _ _ hep
    refine ⟨_,rfl,ep,rfl,⟨_,SqL.of hep7⟩,mR (K:=K) (a:=ep) (xs:=(gB bs).map V.int) (vs:=(List.replicate (gB bs).length true).map V.bl) (fun σ=>∃ v,σ = [v]) (by rw [Qa,hfl.length_eq,aZ]; omega) (by simp) (SqL.of hep7) ⟨none,rfl⟩ ?_ ?_⟩
    ·rintro i u v σ H8 hu hv ⟨v0,rfl⟩ s8 Q' k'
     rw [xX hv] at k'
     obtain ⟨h,_,rfl⟩:=eQ hu
     exact ⟨_,rfl,h,rfl,k' _ _ ⟨_,rfl⟩ (aC.refl _)⟩
    ·intro H8 s8 pb2 hpb2
     have s9:=s8.trans (aC.new (o:=.lst ((List.replicate (gB bs).length true).map V.bl)) hpb2)
     refine ⟨pb2,_,rfl,.inl (SqL.of aB),rfl,xE _,_,rfl,?_⟩
     show if inV (.bl false) ((List.replicate (gB bs).length true).map V.bl)=true then _ else _
     rw [aCj]
     refine eF ?_
     generalize upd H8 pb2 (.lst ((List.replicate (gB bs).length true).map V.bl))=H9 at s9 ⊢
     have s19:=s4.trans (s47.trans s9)
     have F9:=F.same s19
     -- falling
     refine ⟨_,rfl,fp,_,rfl,.inl (SqL.of F9.lst),1,_,rfl,⟨by decide,by decide,by omega,by omega⟩,jQ (lo:=1) (fun j σ H10=>(∃ v4 v5 v6 v7,σ = [some (.ref a),some (.ref wp),some (.ref fp),some (.ref ep),v4,v5,v6,v7])/\aC H9 H10) ⟨⟨_,_,_,_,rfl⟩,aC.refl _⟩ ?_ ?_⟩
     ·rintro j σ H10 hj ⟨⟨v4,v5,v6,v7,rfl⟩,s10⟩
      have F10:=F9.same s10
      have hj1:j+1 < us.length:=by omega
      have hu0:=Qc (show j < us.length by omega)
      have hu1:=Qc hj1
      generalize us[j]'(by omega)=u0 at hu0
      generalize us[j+1]=u1 at hu1
      obtain ⟨c,hc,hcd⟩:=bM F10.den hu0
      obtain ⟨d,hd,hdd⟩:=bM F10.den hu1
      obtain ⟨pp,pq,pr,rfl,hpp,hpq,hpr⟩:=hX hcd
      obtain ⟨pp',pq',pr',rfl,hpp',hpq',hpr'⟩:=hX hdd
      obtain ⟨c1,c2,c3,c4,c5⟩:=hblk c (Qe hc)
      obtain ⟨d1,d2,d3,d4,d5⟩:=hblk d (Qe hd)
      have fc:=(uW (n:=n) c1 c2 c4 c5).1
      have fd':=(uW (n:=n) d1 d2 d4 d5).1
      have hless:=xF F.blk j c d hc hd
      rw [<- qY (x:=(d.2,(d.1.length:Int))) (y:=(c.2,(c.1.length:Int))) (by show (0:Int) < d.1.length; omega) (by show (0:Int) < c.1.length; omega)] at hless
      have hless':=of_decide_eq_true hless
      have ej:(1:Int)+(j:Int) - 1=(j:Int):=by omega
      have ej1:(1:Int)+(j:Int)=((j+1:Nat):Int):=by omega
      dsimp only [dY]
      rw [ej1]
      refine ⟨_,rfl,_,rfl,_,_,rfl,rfl,fp,_,_,_,rfl,rfl,SqL.of F10.lst,(show atI us (((j+1:Nat):Int) - 1)=some (.ref pp) by rw [show ((j+1:Nat):Int) - 1=(j:Int) by omega]; exact gC hu0),pp,_,1,.ref pr,rfl,rfl,hpp,rfl,_,rfl,_,rfl,fp,_,_,_,rfl,rfl,SqL.of F10.lst,gC hu1,pp',_,1,.ref pr',rfl,rfl,hpp',rfl,pr,pr',_,_,_,_,rfl,uH hpr fc,uH hpr' fd',_,rfl,?_⟩
      refine aBU (decide_eq_false (by omega)) ?_
      exact ⟨⟨_,_,_,_,rfl⟩,s10⟩
     ·rintro σ H10 ⟨⟨v4,v5,v6,v7,rfl⟩,s10⟩
      have s1A:=s19.trans s10
      refine ⟨_,rfl,_,rfl,_,n,ws,wp,wt,rfl,s1A.den _ _ hx,F.bk,s1A.seqT hwp,F.wtk,fun p lp ls sp zs bs' hl H11 s11 hp hlp dlp nsp esp dsp hbl' PT=>?_⟩
      have ebs:=jE RO hbl' F.blk
      subst ebs
      refine ⟨p,_,0,.ref lp,rfl,rfl,hp,rfl,?_⟩
      dsimp only [dY]
      have s1B:=s1A.trans s11
      have FB:=F.same s1B
      have hlo:=aCb F.blk F.bk F.wtk
      refine ⟨_,rfl,fp,rfl,⟨_,SqL.of FB.lst⟩,iS (K:=K) (a:=fp) (xs:=us) (fun j σ H12=>(∃ v4 v5 v6,σ = [some (.ref a),some (.ref wp),some (.ref fp),some (.ref ep),v4,v5,v6,some (.ref lp)])/\aC H11 H12) ⟨⟨_,_,_,rfl⟩,aC.refl _⟩ (fun j σ H12 _ ⟨_,s12⟩=>SqL.of (s12 _ _ FB.lst)) ?_ ?_⟩
      ·rintro j xv σ H12 hxv ⟨⟨v4,v5,v6,rfl⟩,s12⟩
       obtain ⟨c,hc,hcd⟩:=bM (s12.denAll _ _ FB.den) hxv
       obtain ⟨pp,pq,pr,rfl,hpp,hpq,hpr⟩:=hX hcd
       have hcm:=Qe hc
       obtain ⟨c1,c2,c3,c4,c5⟩:=hblk c hcm
       refine ⟨pp,_,rfl,hpp,rfl,_,_,rfl,_,_,rfl,rfl,?_⟩
       refine ⟨_,rfl,pq,rfl,⟨_,hpq⟩,iB (K:=K) (a:=pq) (xs:=c.1.map V.int) (fun σ=>∃ v,σ = [v,some (.ref lp),some (.ref pr)]) (fun m cs H13=>H13=H12/\cs = []) (bP (by rw [Qa]; omega)) ⟨none,rfl⟩ ⟨rfl,rfl⟩ (fun m cs H13 ⟨_,e⟩=>by rw [e]; exact Jf _) (fun m cs H13 ⟨e,_⟩=>by rw [e]; exact hpq) ?_ ?_⟩
       ·rintro m cs σ yv H13 hyv ⟨v,rfl⟩ ⟨rfl,rfl⟩ hz
        obtain ⟨h,hh,rfl⟩:=eQ hyv
        obtain ⟨h0,h1⟩:=c3 h (Qe hh)
        obtain ⟨ph,e1,e2,e3⟩:=aB6 (s12.denAll _ _ dlp) h0 (by rw [uR]; omega)
        rw [aCa h0 h1,aDH RO F.blk c hcm h (Qe hh)] at e2
        refine ⟨_,rfl,_,rfl,lp,_,h,_,rfl,rfl,s12.seqT hlp,e1,_,rfl,eM (bU (c.2,(c.1.length:Int))),eM (bU (c.2,(c.1.length:Int))),fX.mpr ⟨ph,rfl,e2⟩,fX.mpr ⟨pr,rfl,hpr⟩,iF _,iF _,jM _,jM _,_,rfl,?_⟩
        rw [rL,decide_eq_true rfl]
        exact eF ⟨⟨_,rfl⟩,rfl,rfl⟩
       ·rintro cs H13 ⟨rfl,rfl⟩ pl hpl
        refine ⟨bP (Jf _),fun pe hpe=>?_⟩
        refine ⟨.list (([]:List Int).map .int),.list [],bT.mpr ⟨pl,[],rfl,(aC.new hpe).seqL (SqL.of aB),aL.mpr rfl⟩,bT.mpr ⟨pe,[],rfl,SqL.of aB,aL.mpr rfl⟩,cC [],cC [],cF [],cF [],_,rfl,?_⟩
        rw [rK]
        exact eF ⟨⟨_,_,_,rfl⟩,s12.trans ((aC.new hpl).trans (aC.new hpe))⟩
      ·rintro σ H12 ⟨⟨v4,v5,v6,rfl⟩,s12⟩
       have s1C:=s1B.trans s12
       exact ⟨_,rfl,_,rfl,_,rfl,_,wp,fp,us,n,ws,wt,bs',rfl,s1C.den _ _ hx,s1C.seqT hwp,F.same s1C,fun H14 s14=>k _ (s1C.trans s14)⟩
def aDm:Scope:=match (gK oV).getD 0 (.Pass ⟨0,0,0,0⟩) with
 | .For _ _ [_,_,_,_,_,_,_,_,.Assign _ (.Call _ [.ListComp _ _ sc _] _ _) _,_,_,_,_] _ _=>sc
 | _=>{ kind:=.function,names:=[],isGenerator:=false,isCoroutine:=false }
def aDn:Scope:=match (gK oV).getD 0 (.Pass ⟨0,0,0,0⟩) with
 | .For _ _ [_,_,_,_,_,_,_,_,_,.Assign _ (.ListComp _ _ sc _) _,_,_,_] _ _=>sc
 | _=>{ kind:=.function,names:=[],isGenerator:=false,isCoroutine:=false }
theorem nK {X:Cx} {K:PySem.W.Frag} (hK:X.K=K):eY X (.builtin "sorted") (fun xs H Q=>∃ (a:Addr) (ns:List Int),xs = [.ref a]/\(SqL K H a (ns.map V.int)∨SqT K H a (ns.map V.int))/\ns.length < 64 /\
  ∀ (p:Addr) (ms:List Int),H p=none->ms.Perm ns->ms.Pairwise (·<=·)->Q (.ref p) (upd H p (.lst (ms.map V.int)))):=by subst hK; exact kX
theorem aCk {t:Addr} {H H':Hp} {o:HO} (h:H t=none) (b:But t (upd H t o) H'):aC H H':=fun c u e=>by
 have n:c≠t:=fun z=>by rw [z,h] at e; cases e
 exact b c u n (by rw [aG n]; exact e)
theorem aDo (b:List Int×Int):PyData.eqv (fZ b) (fZ b)=true:=by
 unfold fZ
 rw [PyData.eqv,PyData.eqvAll,PyData.eqvAll,PyData.eqvAll]
 have e1:PyData.eqv (bN b.1) (bN b.1)=true:=(lP b.1 b.1).trans (decide_eq_true rfl)
 rw [e1,rL,decide_eq_true rfl]
 rfl
theorem nM (bs:bA):PyData.eqv (.list (bs.map fZ)) (.list (bs.map fZ))=true:=by
 rw [PyData.eqv]
 induction bs with
 | nil=>rw [Zt,PyData.eqvAll]
 | cons b bs ih=>rw [Jc,PyData.eqvAll,aDo,ih]; rfl
theorem yE (b:List Int×Int):cT (fZ b)=true:=by
 unfold fZ cT gL
 rw [show cT (bN b.1)=true from dQ _]
 unfold gL
 rw [iF]
 unfold gL
 rfl
theorem eO (bs:bA):cT (.list (bs.map fZ))=true:=by
 unfold cT
 induction bs with
 | nil=>unfold List.map gL; rfl
 | cons b bs ih=>rw [Jc]; unfold gL; rw [ih,yE]; rfl
theorem eP (bs:bA):SeqAt.shaped (.list (bs.map fZ))=true:=by
 refine nZ ?_ ?_
 ·unfold PyData.canLay0
  refine kJ _ (fun b=>?_) bs
  unfold fZ PyData.canLay0 PyData.canLayAll0
  rw [show (bN b.1).canLay0=true from gS _]
  unfold PyData.canLayAll0
  rw [show (eM (bU (b.2,(b.1.length:Int)))).canLay0=true from gS [_,_]]
  unfold PyData.canLayAll0
  rfl
 ·unfold PyData.depth
  refine Qt (Zn (lO (k:=2) _ (fun b=>?_) bs)) (by decide)
  unfold fZ PyData.depth PyData.depthAll
  refine Zn (Nat.max_le.mpr ⟨iD _,?_⟩)
  unfold PyData.depthAll
  refine Nat.max_le.mpr ⟨iD [_,_],?_⟩
  unfold PyData.depthAll
  exact Jf _
theorem aDp (ws:List (List Int)) (wt:List Int):(ws.zip wt).map dbl=ws.zip (wt.map (2 * ·)):=by
 rw [List.zip_map_right]
 rfl
theorem aDq (n:Nat) (g:Int->Int) (ws:List (List Int)) (wt:List Int):(ws.zip wt).map (ren n g)=(ws.map fun l=>srt n (l.map g)).zip wt:=by
 rw [List.zip_map_left]
 rfl
theorem aDr {b:List Int×Int} (h0:0 < b.1.length):bU (2*(bU (b.2,(b.1.length:Int))).1,(bU (b.2,(b.1.length:Int))).2)=bU (2*b.2,(b.1.length:Int)):=by
 have hk:(0:Int) < b.1.length:=by omega
 have h:=aBS (a:=2*fQ b.2 b.1.length) (c:=2*b.2) (lD b.2 hk) hk (by rw [Jo,tD b.2 hk,Jo])
 exact Prod.ext h.1 h.2
theorem aCl:∀ {bs:bA} {left:List Int} {rows:bA},left.Nodup->bX left rows bs->∀ b∈bs,b.1.Nodup
 | [],_,_,_,_,b,hb=>by cases hb
 | c::bs,left,rows,nd,h,b,hb=>by
  rcases Ql.mp hb with rfl | hb
  ·rw [h.1.2.1]; exact nd.filter _
  ·exact aCl (nd.filter _) h.2 b hb
theorem aDs {α β:Type}:∀ (a:List α) (b:List β),b.length=a.length->a.reverse.zip b.reverse=(a.zip b).reverse:=fun a b h=>by
 rw [Wt,Wt,List.reverse_zipWith h.symm]
theorem rO {K:PySem.W.Frag} {H:Hp}:∀ {ds:List PyData} {zs:List V},aO K H ds zs->aO K H ds.reverse zs.reverse
 | [],zs,h=>by rw [aL.mp h]; exact aL.mpr rfl
 | d::ds,zs,h=>by
  obtain ⟨z,r,rfl,h1,h2⟩:=aJ.mp h
  rw [Zi,Zi]
  exact bC (rO h2) (aJ.mpr ⟨_,_,rfl,h1,aL.mpr rfl⟩)
def zX (K:PySem.W.Frag):Sp:=fun vs H Q _=>∃ (a:Addr) (ns:List Int),vs = [.ref a]/\SqL K H a (ns.map V.int)/\∀ H',Q (.bl true) H'
theorem mC:FnScope ["script", "start", "tape", "book", "weights", "found", "twice", "far", "works", "due"] ["script"] (aF oV):=⟨rfl,rfl,rfl,by decide +kernel,rfl,by decide +kernel,by decide +kernel⟩
set_option maxHeartbeats 8000000 in
theorem aEp {f fT fB2 fWt fBl fR fL fD:Addr} {fd dT dB2 dWt dBl dR dL dD:FuncData} (G:Fn K mg "law" oV ["script"] f fd) (B:Bl mg) (GTp:Fn K mg "_law_atape" zF ["script", "k"] fT dT) (OTp:FnOk P w K mg base CX0 2 fT dT ["script", "k"] (aBL K)) (GB:Fn K mg "_law_abook" qJ ["tape", "hands", "works"] fB2 dB2) (OB:FnOk P w K mg base CX0 2 fB2 dB2 ["tape", "hands", "works"] (zK K))
  (GWt:Fn K mg "_law_aweights" aBD ["tape", "many"] fWt dWt) (OWt:FnOk P w K mg base CX0 2 fWt dWt ["tape", "many"] (aDE K)) (GBl:Fn K mg "blocks" gQ ["book", "weights"] fBl dBl) (OBl:FnOk P w K mg base CX0 7 fBl dBl ["book", "weights"] (lG K)) (GRi:Fn K mg "_law_aright" kI ["book", "weights", "found"] fR dR) (ORi:FnOk P w K mg base CX0 10 fR dR ["book", "weights", "found"] (kA K))
  (GLo:Fn K mg "_law_alow" wJ ["a", "b"] fL dL) (OLo:FnOk P w K mg base CX0 1 fL dL ["a", "b"] iE) (GD:Fn K mg "_law_adigit" lM ["tape", "many"] fD dD) (OD:FnOk P w K mg base CX0 1 fD dD ["tape", "many"] (mX K)):FnOk P w K mg base CX0 11 f fd ["script"] (zX K):=by
 refine G.fn.ok mC (fun vs H Q E h=>?_) (fun cdv A outer s H vs Q E hr h=>?_)
 ·obtain ⟨a,ns,rfl,_⟩:=h
  rfl
 ·obtain ⟨a,ns,rfl,hns,k⟩:=h
  have r1:Room 1 _:=hr.mono (by decide)
  have r2:Room 2 _:=hr.mono (by decide)
  have r7:Room 7 _:=hr.mono (by decide)
  have r10:Room 10 _:=hr
  refine ⟨_,(aE (fE PassesOwn.never rfl (sF rfl B.range (aA aH (aA (aP (aAc rfl) rfl B.max aE9 (aA aH (aA (aP (aAd rfl) rfl B.min aDw (aA aH (aA (aP aU rfl B.len gG (aA (pv 0) aD)) aD))) aD))) aD))) (aM (i:=1) mC.nd rfl (Or.inl rfl))
   (aE (aS (i:=2) mC.nd rfl (Or.inl rfl) (bK GTp OTp r2 rfl (aA (pv 0) (aA (pv 1) aD))))
  (aE (aS (i:=3) mC.nd rfl (Or.inr rfl) (bK GB OB r2 rfl (aA (pv 2) (aA aH (aA aH aD)))))
  (aE (aS (i:=4) mC.nd rfl (Or.inl rfl) (bZ cR rfl B.tuple cX (aA (bR (own:=["weight"]) (fr:=[]) (frn:=[]) (aR (aF oV) ["script", "start", "tape", "book", "weights", "found", "twice", "far", "works", "due"] rfl rfl (by decide +kernel)) rfl (gM (bK GWt OWt r2 rfl (aA (pv 2) (aA (aP aU rfl B.len gG (aA (aY bL (pv 3) aH (fun _ _=>rfl)) aD)) aD))))
    (fun _ _ _ _=>(aM (i:=0) (show (["weight"]:List Str).Nodup by decide +kernel) rfl (Or.inl rfl))) (fun _ _ _ _=>cI)
    (fun _ _ _ _=>(bD yJ (pv 0) aH))) aD)))
  (aE (aS (i:=5) mC.nd rfl (Or.inl rfl) (bK GBl OBl r7 rfl (aA (pv 3) (aA (pv 4) aD))))
  (aE (cY (PW.pt (iJ (eZ (eD (bK GRi ORi r10 rfl (aA (pv 3) (aA (pv 4) (aA (pv 5) aD)))))) (iR (aW (jO hr.u64) (bK GBl OBl r7 rfl (aA (pv 3) (aA (pv 4) aD))) (pv 5) (bJ _)))))
   (aI (aT eX))
   bO)
  (aE (aS (i:=6) mC.nd rfl (Or.inl rfl) (bK GBl OBl r7 rfl (aA (pv 3) (aA (bZ cR rfl B.tuple cX (aA (bR (own:=["weight"]) (fr:=[]) (frn:=[]) (aR (aF oV) ["script", "start", "tape", "book", "weights", "found", "twice", "far", "works", "due"] rfl rfl (by decide +kernel)) rfl (gM (pv 4))
    (fun _ _ _ _=>(aM (i:=0) (show (["weight"]:List Str).Nodup by decide +kernel) rfl (Or.inl rfl))) (fun _ _ _ _=>cI)
    (fun _ _ _ _=>(bD eC aH (pv 0)))) aD)) aD))))
  (aE (cY (aW (jO hr.u64) (pv 6) (bR (own:=["some", "load"]) (fr:=[]) (frn:=[]) (aR (aF oV) ["script", "start", "tape", "book", "weights", "found", "twice", "far", "works", "due"] rfl rfl (by decide +kernel)) rfl (cG (pv 5))
    (fun _ _ _ _=>(jJ (K:=K) (n:=2) rfl rfl (aV (aM (i:=0) (show (["some", "load"]:List Str).Nodup by decide +kernel) rfl (Or.inl rfl)) (aV (aM (i:=1) (show (["some", "load"]:List Str).Nodup by decide +kernel) rfl (Or.inl rfl)) eA)))) (fun _ _ _ _=>cI)
    (fun _ _ _ _=>(eE (aA (pv 0) (aA (bK GLo OLo r1 rfl (aA (bD eC aH (aY (jK (K:=K) rfl) (pv 1) aH (fun _ _=>rfl))) (aA (aY (jK (K:=K) rfl) (pv 1) aH (fun _ _=>rfl)) aD))) aD))))) (bJ _))
   (aI (aT eX))
   bO)
  (aE (aS (i:=7) mC.nd rfl (Or.inr rfl) (bK GD OD r1 rfl (aA (pv 2) (aA (aY bL (pv 3) aH (fun _ _=>rfl)) aD))))
  (aE (aS (i:=8) mC.nd rfl (Or.inl rfl) (bZ cR rfl B.tuple cX (aA (bR (own:=["able"]) (fr:=[3,7]) (frn:=["book", "far"]) (aR (aF oV) ["script", "start", "tape", "book", "weights", "found", "twice", "far", "works", "due"] rfl rfl (by decide +kernel)) rfl (gM (aY bL (pv 3) aH (fun _ _=>rfl)))
    (fun _ _ _ _=>(aM (i:=0) (show (["able", "book", "far"]:List Str).Nodup by decide +kernel) rfl (Or.inl rfl))) (fun _ _ _ _=>cI)
    (fun _ _ _ _=>(bZ (gR (K:=K) rfl) rfl B.tuple cX (aA (aP (nK (K:=K) rfl) rfl B.sorted mS (aA (bR (own:=["hand"]) (fr:=[1,2]) (frn:=["book", "far"]) (aR (aBn aDm (aF oV)) ["able", "book", "far"] rfl rfl (by decide +kernel)) rfl (nD (K:=K) rfl (pv 0))
    (fun _ _ _ _=>(aM (i:=0) (show (["hand", "book", "far"]:List Str).Nodup by decide +kernel) rfl (Or.inl rfl))) (fun _ _ _ _=>cI)
    (fun _ _ _ _=>(bD kE (bD iH (pv 0) (pv 2)) (aY (jK (K:=K) rfl) (pv 1) aH (fun _ _=>rfl))))) aD)) aD)))) aD)))
  (aE (fM (i:=9) (own:=["some", "load"]) (fr:=[3,7]) (frn:=["book", "far"]) (aR (aF oV) ["script", "start", "tape", "book", "weights", "found", "twice", "far", "works", "due"] rfl rfl (by decide +kernel)) rfl mC.nd rfl rfl rfl (cG (pv 5))
    (fun _ _ _ _=>(jJ (K:=K) (n:=2) rfl rfl (aV (aM (i:=0) (show (["some", "load", "book", "far"]:List Str).Nodup by decide +kernel) rfl (Or.inl rfl)) (aV (aM (i:=1) (show (["some", "load", "book", "far"]:List Str).Nodup by decide +kernel) rfl (Or.inl rfl)) eA)))) (fun _ _ _ _=>cI)
    (fun _ _ _ _=>(eE (aA (bZ (gR (K:=K) rfl) rfl B.tuple cX (aA (aP (nK (K:=K) rfl) rfl B.sorted mS (aA (bR (own:=["hand"]) (fr:=[2,3]) (frn:=["book", "far"]) (aR (aBn aDn (aF oV)) ["some", "load", "book", "far"] rfl rfl (by decide +kernel)) rfl (nD (K:=K) rfl (pv 0))
    (fun _ _ _ _=>(aM (i:=0) (show (["hand", "book", "far"]:List Str).Nodup by decide +kernel) rfl (Or.inl rfl))) (fun _ _ _ _=>cI)
    (fun _ _ _ _=>(bD kE (bD iH (pv 0) (pv 2)) (aY (jK (K:=K) rfl) (pv 1) aH (fun _ _=>rfl))))) aD)) aD)) (aA (pv 1) aD)))))
  (aE (cY (aW (jO hr.u64) (bK GBl OBl r7 rfl (aA (eE (aA (aY bL (pv 3) aH (fun _ _=>rfl)) (aA (pv 8) aD))) (aA (pv 4) aD))) (pv 9) (bJ _))
   (aI (aT eX))
   bO)
  (aE (kC (aD1 PySem.F.plainAttrs_list PySem.F.slot_list_clear PySem.F.type_list_clear aA8 (pv 5)))
  (aI (cY (aW (jO hr.u64) (bK GBl OBl r7 rfl (aA (eE (aA (aY bL (pv 3) aH (fun _ _=>rfl)) (aA (aBh (pv 8) (yI tK aH)) aD))) (aA (aBh (pv 4) (yI tK aH)) aD))) (pv 9) (bJ _))
   (aI (aT eX))
   bO)))))))))))))))
  (aI (aT eX))),?_⟩
  have hM:∀ m:Int,0<=m->0<=(if (if m < 2 then m else 2) > 1 then (if m < 2 then m else 2) else 1)/\(if (if m < 2 then m else 2) > 1 then (if m < 2 then m else 2) else 1)<=2:=fun m hm=>by split <;> split <;> omega
  have hM':=hM ((ns.map V.int).length:Int) (by omega)
  refine ⟨_,rfl,a,_,rfl,.inl hns,_,_,rfl,_,_,rfl,0,_,rfl,⟨by decide,by decide,by omega,by omega⟩,jQ (lo:=0) (fun i σ H1=>(∃ v1 v2 v3 v4 v5 v6 v7 v8 v9,σ = [some (.ref a),v1,v2,v3,v4,v5,v6,v7,v8,v9])/\SqL K H1 a (ns.map V.int)) ⟨⟨_,_,_,_,_,_,_,_,_,rfl⟩,hns⟩ ?_ ?_⟩
  ·rintro i σ H1 hi ⟨⟨v1,v2,v3,v4,v5,v6,v7,v8,v9,rfl⟩,hs1⟩
   refine ⟨_,rfl,_,rfl,a,ns,i,by rw [Ys]; rfl,hs1,fun t n0 ht=>?_⟩
   have bS:∀ {H':Hp},But t (upd H1 t (.lst [.int n0])) H'->aC H1 H':=fun b=>aCk ht b
   have T2:iC K (upd H1 t (.lst [.int n0])) t a ns:=⟨_,aB⟩
   generalize upd H1 t (.lst [.int n0])=H2 at T2 bS ⊢
   dsimp only [dY]
   refine ⟨_,rfl,t,a,ns,6,12,rfl,T2,by decide,by decide,by decide,by decide,fun n ws bk H5 hb hn hlen b5 T5 hbk=>?_⟩
   dsimp only [dY]
   obtain ⟨c,bb,ys,e,hc,hb1,hys1⟩:=iZ hbk
   cases e
   have hly:=aK hys1
   rw [Qa] at hly
   obtain ⟨hn1,hn6,h12,hwk⟩:=cO hb
   refine ⟨_,rfl,_,rfl,bk,_,1,.ref bb,rfl,rfl,hc,rfl,bb,ys,rfl,.inr hb1,t,a,ns,ws.length,by rw [hly]; rfl,T5,by omega,fun w0 wp0 H7 hwl hwb b7 T7 hwp0=>?_⟩
   have hc7:=T5.seqT b7 hc
   have hb7:=T5.seqT b7 hb1
   have hys7:=T5.denAll b7 (cL _ fO ws) hys1
   -- weights,halved
   refine ⟨wp0,rfl,⟨_,hwp0⟩,gO (K:=K) (a:=wp0) (xs:=w0.map V.int) (vs:=(w0.map (· / 2)).map V.int) (fun σ=>∃ v,σ = [v]) (by rw [Qa]; omega) (by simp) hwp0 ⟨none,rfl⟩ ?_ ?_⟩
   ·rintro j u v σ H8 hu hv ⟨v0,rfl⟩ s8 Q' k'
    obtain ⟨x,hx2,rfl⟩:=eQ hu
    rw [Qg,Qg,hx2] at hv
    cases hv
    exact ⟨_,rfl,_,_,rfl,rfl,⟨by decide,by decide⟩,k' _ _ ⟨_,rfl⟩ (aC.refl _)⟩
   ·intro H8 s8 l0 hl0
    refine ⟨l0,_,rfl,.inl ⟨SqL.of aB,fun wp hwpn=>?_⟩⟩
    have s9:=s8.trans ((aC.new (o:=.lst ((w0.map (· / 2)).map V.int)) hl0).trans (aC.new (o:=.tup ((w0.map (· / 2)).map V.int)) hwpn))
    have hwp:SqT K (upd (upd H8 l0 (.lst ((w0.map (· / 2)).map V.int))) wp (.tup ((w0.map (· / 2)).map V.int))) wp ((w0.map (· / 2)).map V.int):=SqT.of aB
    generalize upd (upd H8 l0 (.lst ((w0.map (· / 2)).map V.int))) wp (.tup ((w0.map (· / 2)).map V.int))=H9 at s9 hwp ⊢
    have hwtl:(w0.map (· / 2)).length=ws.length:=by rw [Qa]; exact hwl
    have hwtb:∀ x∈w0.map (· / 2),0<=x/\x<=49:=fun x hx=>by
     obtain ⟨y,hy,rfl⟩:=Qx.mp hx
     have:=hwb y hy
     show 0<=y / 2/\y / 2<=49
     omega
    generalize w0.map (· / 2)=wt at hwp hwtl hwtb ⊢
    have hwt:oF ws wt:=⟨hwtl,fun x hx=>by have:=hwtb x hx; omega⟩
    have hbk9:Den K H9 (dZ n ws) (.ref bk):=s9.den _ _ (lQ hc7 hb7 hys7)
    have T9:=T7.same s9
    obtain ⟨RO,RS,RL⟩:=gI hb hwt
    dsimp only [dY]
    -- found
    refine ⟨_,rfl,_,rfl,_,n,ws,wp,wt,rfl,hbk9,hb,hwp,hwt,fun fp us bs H10 s10 nfp hfp dfp hbl hus=>?_⟩
    dsimp only [dY]
    have F10:Fnd K H10 fp us n ws wt bs:=⟨hfp,dfp,hb,hwt,hbl⟩
    refine ⟨_,rfl,_,rfl,_,rfl,_,wp,fp,us,n,ws,wt,bs,rfl,s10.den _ _ hbk9,s10.seqT hwp,F10,fun H11 s11=>⟨_,rfl,eF ?_⟩⟩
    have s911:=s10.trans s11
    refine ⟨_,rfl,_,rfl,_,n,ws,wp,wt,rfl,s911.den _ _ hbk9,hb,s911.seqT hwp,hwt,fun fp2 us2 bs2 H12 s12 nfp2 hfp2 dfp2 hbl2 _=>?_⟩
    have e2:=jE RO hbl2 hbl
    subst e2
    have F12:=F10.same (s11.trans s12)
    refine ⟨_,rfl,.list (bs2.map fZ),.list (bs2.map fZ),bT.mpr ⟨fp2,us2,rfl,SqL.of hfp2,dfp2⟩,bT.mpr ⟨fp,us,rfl,SqL.of F12.lst,F12.den⟩,eO _,eO _,eP _,eP _,_,rfl,?_⟩
    rw [nM]
    refine eF ?_
    have s912:=s911.trans s12
    have hwp12:=s912.seqT hwp
    have hblk:∀ c∈bs2,0 < c.1.length/\c.1.length<=6/\(∀ h∈c.1,h∈aQ n.toNat)/\0<=c.2/\c.2<=1188:=fun c hc=>by
     obtain ⟨a1,a2,a3,a4⟩:=oK RO hbl c hc
     rw [aZ] at a1
     have:=yD RS hbl c hc
     exact ⟨a3,by omega,a2,a4,by omega⟩
    -- twice
    refine ⟨_,rfl,_,rfl,wp,rfl,⟨_,hwp12⟩,gO (K:=K) (a:=wp) (xs:=wt.map V.int) (vs:=(wt.map (2 * ·)).map V.int) (fun σ=>∃ v,σ = [v]) (by rw [Qa]; omega) (by simp) hwp12 ⟨none,rfl⟩ ?_ ?_⟩
    ·rintro j u v σ H13 hu hv ⟨v0,rfl⟩ s13 Q' k'
     obtain ⟨x,hx2,rfl⟩:=eQ hu
     rw [Qg,Qg,hx2] at hv
     cases hv
     have:=hwtb x (Qe hx2)
     exact ⟨_,rfl,_,_,rfl,rfl,⟨dU (by decide),dU (by omega)⟩,k' _ _ ⟨_,rfl⟩ (aC.refl _)⟩
    ·intro H13 s13 l2 hl2
     refine ⟨l2,_,rfl,.inl ⟨SqL.of aB,fun wp2 hwp2=>?_⟩⟩
     have s14:=s13.trans ((aC.new (o:=.lst ((wt.map (2 * ·)).map V.int)) hl2).trans (aC.new (o:=.tup ((wt.map (2 * ·)).map V.int)) hwp2))
     have hwpt:SqT K (upd (upd H13 l2 (.lst ((wt.map (2 * ·)).map V.int))) wp2 (.tup ((wt.map (2 * ·)).map V.int))) wp2 ((wt.map (2 * ·)).map V.int):=SqT.of aB
     generalize upd (upd H13 l2 (.lst ((wt.map (2 * ·)).map V.int))) wp2 (.tup ((wt.map (2 * ·)).map V.int))=H14 at s14 hwpt ⊢
     have hwt2:oF ws (wt.map (2 * ·)):=⟨by rw [Qa]; exact hwtl,fun x hx=>by
      obtain ⟨y,hy,rfl⟩:=Qx.mp hx
      have:=hwtb y hy
      show 0<=2*y/\2*y<=99
      omega⟩
     have s914:=s912.trans s14
     refine ⟨_,n,ws,wp2,wt.map (2 * ·),rfl,s914.den _ _ hbk9,hb,hwpt,hwt2,fun tp us3 bs3 H15 s15 ntp htp dtp hbl3 _=>?_⟩
     have e3:bs3=bs2.map dbl:=jE (gI hb hwt2).1 hbl3 (by rw [<- aDp]; exact zU hbl)
     subst e3
     dsimp only [dY]
     have F15:=F12.same (s14.trans s15)
     refine ⟨_,rfl,_,rfl,fp,rfl,⟨_,SqL.of F15.lst⟩,eU (K:=K) (a:=fp) (xs:=us) (fun σ=>∃ v w,σ = [v,w]) (fun j cs H16=>aC H15 H16/\aO K H16 (((bs2.take j).map dbl).map fZ) cs) (bP (by omega)) ⟨none,none,rfl⟩ ⟨aC.refl _,aL.mpr rfl⟩ ?_ (fun j cs H16 ⟨s16,_⟩=>SqL.of (s16 _ _ F15.lst)) ?_ ?_⟩
     ·rintro j cs H16 ⟨_,d16⟩
      rw [aK d16,Qa,Qa,Jd]
      exact Jt _ _
     ·rintro j cs σ yv H16 hyv ⟨v,w,rfl⟩ ⟨s16,d16⟩ hz
      obtain ⟨q,hq,hqd⟩:=bM (s16.denAll _ _ F15.den) hyv
      obtain ⟨pp,pq,pr,rfl,hpp,hpq,hpr⟩:=hX hqd
      obtain ⟨q1,q2,q3,q4,q5⟩:=hblk q (Qe hq)
      obtain ⟨f1,f2,f3,f4⟩:=uW (n:=n) q1 q2 q4 q5
      have fA:(bU (q.2,(q.1.length:Int))).1<=1188:=Int.le_trans (pE q4 (by omega)) q5
      refine ⟨pp,_,rfl,hpp,rfl,_,_,rfl,_,_,rfl,rfl,?_⟩
      refine ⟨_,rfl,_,rfl,pr,_,0,_,rfl,rfl,hpr,rfl,_,_,rfl,rfl,⟨dU (by decide),dU (by omega)⟩,_,rfl,pr,_,1,_,rfl,rfl,hpr,rfl,_,_,rfl,f1.1,Xm (show (bU (q.2,(q.1.length:Int))).2<=2^10 by omega) (by decide),fun pl hpl=>⟨sz2 _ _,fun pn hpn=>⟨hz,⟨_,_,rfl⟩,s16.trans ((aC.new hpl).trans (aC.new hpn)),?_⟩⟩⟩
      rw [bQ hq,Qp,Qp]
      refine bC (((aC.new hpl).trans (aC.new hpn)).denAll _ _ d16) (aJ.mpr ⟨_,_,rfl,rD (b:=dbl q) (SqT.of aB) (((aC.new hpl).trans (aC.new hpn)).seqT hpq) ((aC.new hpn).seqT (SqT.of ?_)),aL.mpr rfl⟩)
      have e:=aDr (b:=q) q1
      show upd H16 pl _ pl=some (.tup [.int (bU (2*q.2,(q.1.length:Int))).1,.int (bU (2*q.2,(q.1.length:Int))).2])
      rw [<- e]
      exact aB
     ·rintro cs H16 ⟨s16,d16⟩ pl hpl
      rw [F10.len,Jk] at d16
      have s17:=s16.trans (aC.new (o:=.lst cs) hpl)
      refine ⟨.list ((bs2.map dbl).map fZ),.list ((bs2.map dbl).map fZ),bT.mpr ⟨tp,us3,rfl,SqL.of (s17 _ _ htp),s17.denAll _ _ dtp⟩,bT.mpr ⟨pl,cs,rfl,SqL.of aB,(aC.new hpl).denAll _ _ d16⟩,eO _,eO _,eP _,eP _,_,rfl,?_⟩
      rw [nM]
      refine eF ?_
      generalize upd H16 pl (.lst cs)=H17 at s17 ⊢
      have s1217:=s14.trans (s15.trans s17)
      have s917:=s912.trans s1217
      have T17:=T9.same s917
      have F17:=F12.same s1217
      have hbk17:=s917.den _ _ hbk9
      have nft:fp≠t:=T9.ne nfp
      have hc17:=(s9.trans s917).seqT hc7
      have hb17:=(s9.trans s917).seqT hb7
      have hys17:=(s9.trans s917).denAll _ _ hys7
      have hwp17:=s917.seqT hwp
      have hN:((n.toNat:Nat):Int)=n:=Zq (by omega)
      refine ⟨_,rfl,_,rfl,bk,_,0,.int n,rfl,rfl,hc17,rfl,t,a,ns,n,rfl,T17,by omega,by omega,fun far H18 hf0 hf1 b18 T18=>?_⟩
      have hc18:=T17.seqT b18 hc17
      have hb18:=T17.seqT b18 hb17
      have hys18:=T17.denAll b18 (cL _ fO ws) hys17
      have hwp18:=T17.seqT b18 hwp17
      have hfp18:=b18 _ _ nft F17.lst
      have dfp18:=T17.denAll b18 (cL fZ kP bs2) F17.den
      dsimp only [dY]
      have R:Ren n.toNat fun x=>(x+far) % n:=by
       have:=aDk (n:=n.toNat) (f:=far) (by omega)
       rwa [hN] at this
      have srtp:∀ l:List Int,(srt n.toNat l).Pairwise (·<=·):=fun l=>(uV n.toNat).sublist Zr
      have srtq:∀ l:List Int,(srt n.toNat l).Pairwise (· < ·):=fun l=>(qP n.toNat).sublist Zr
      have hwu:∀ l∈ws,(∀ x∈l,x∈aQ n.toNat)/\l.Nodup/\l.length<=6/\l≠[]:=fun l hl=>by
       obtain ⟨c1,c2,c3⟩:=jA (hwk l hl)
       have:=jB (by omega) c2 c3
       exact ⟨fun x hx=>cH.mpr (by have:=c2 x hx; omega),Xb.mpr (c3.imp fun h=>by omega),by omega,c1⟩
      -- the works,hands called otherwise
      refine ⟨_,rfl,bk,_,1,.ref bb,rfl,rfl,hc18,rfl,bb,rfl,⟨_,hb18⟩,iB (K:=K) (a:=bb) (xs:=ys) (fun σ=>∃ v,σ = [v,some (.ref bk),some (.int far)]) (fun j cs H19=>aC H18 H19/\aO K H19 (((ws.take j).map fun l=>srt n.toNat (l.map fun x=>(x+far) % n)).map bN) cs) (bP (by omega)) ⟨none,rfl⟩ ⟨aC.refl _,aL.mpr rfl⟩ ?_ (fun j cs H19 ⟨s19,_⟩=>s19.seqT hb18) ?_ ?_⟩
      ·rintro j cs H19 ⟨_,d19⟩
       rw [aK d19,Qa,Qa,Jd]
       exact Jt _ _
      ·rintro j cs σ yv H19 hyv ⟨v,rfl⟩ ⟨s19,d19⟩ hz
       obtain ⟨l,hl1,hl2⟩:=bM hys18 hyv
       obtain ⟨al,rfl,hal⟩:=bB.mp hl2
       obtain ⟨u1,u2,u3,u4⟩:=hwu l (Qe hl1)
       have hal19:=s19.seqT hal
       refine ⟨_,rfl,al,rfl,⟨_,hal19⟩,gO (K:=K) (a:=al) (xs:=l.map V.int) (vs:=(l.map fun x=>(x+far) % n).map V.int) (fun σ=>∃ v,σ = [v,some (.ref bk),some (.int far)]) (by rw [Qa]; omega) (by simp) hal19 ⟨none,rfl⟩ ?_ ?_⟩
       ·rintro m u v σ H20 hu hv ⟨v0,rfl⟩ s20 Q' k'
        obtain ⟨x,hx2,rfl⟩:=eQ hu
        rw [Qg,Qg,hx2] at hv
        cases hv
        exact ⟨_,rfl,_,rfl,_,_,rfl,rfl,_,rfl,bk,_,0,.int n,rfl,rfl,(s19.trans s20).seqT hc18,rfl,_,_,rfl,rfl,(show (0:Int) < n by omega),k' _ _ ⟨_,rfl⟩ (aC.refl _)⟩
       ·intro H20 s20 pl2 hpl2
        refine ⟨pl2,l.map fun x=>(x+far) % n,rfl,.inl (SqL.of aB),by rw [Qa]; omega,fun p3 ms hp3 hpm hps=>?_⟩
        have ems:ms=srt n.toNat (l.map fun x=>(x+far) % n):=lV (hpm.trans (R.perm u1 u2).symm) hps (srtp _)
        subst ems
        refine ⟨p3,_,rfl,.inl ⟨SqL.of aB,fun pt hpt=>?_⟩⟩
        have s21:=s20.trans ((aC.new (o:=.lst ((l.map fun x=>(x+far) % n).map V.int)) hpl2).trans ((aC.new (o:=.lst ((srt n.toNat (l.map fun x=>(x+far) % n)).map V.int)) hp3).trans (aC.new (o:=.tup ((srt n.toNat (l.map fun x=>(x+far) % n)).map V.int)) hpt)))
        refine ⟨hz,⟨_,rfl⟩,s19.trans s21,?_⟩
        rw [bQ hl1,Qp,Qp]
        exact bC (s21.denAll _ _ d19) (aJ.mpr ⟨_,_,rfl,bB.mpr ⟨pt,rfl,SqT.of aB⟩,aL.mpr rfl⟩)
      ·rintro cs H19 ⟨s19,d19⟩ pl2 hpl2
       rw [hly,Jk] at d19
       refine ⟨pl2,cs,rfl,.inl ⟨SqL.of aB,fun wkp hwkp=>?_⟩⟩
       have s20:=s19.trans ((aC.new (o:=.lst cs) hpl2).trans (aC.new (o:=.tup cs) hwkp))
       have ewk:SqT K (upd (upd H19 pl2 (.lst cs)) wkp (.tup cs)) wkp cs:=SqT.of aB
       have d20:=((aC.new (o:=.lst cs) hpl2).trans (aC.new (o:=.tup cs) hwkp)).denAll _ _ d19
       generalize upd (upd H19 pl2 (.lst cs)) wkp (.tup cs)=H20 at s20 ewk d20 ⊢
       dsimp only [dY]
       have hfp20:=s20 _ _ hfp18
       have dfp20:=s20.denAll _ _ dfp18
       have hc20:=s20.seqT hc18
       have hwp20:=s20.seqT hwp18
       -- what is due
       refine ⟨_,rfl,fp,rfl,⟨_,SqL.of hfp20⟩,eU (K:=K) (a:=fp) (xs:=us) (fun σ=>∃ v w,σ = [v,w,some (.ref bk),some (.int far)]) (fun j es H21=>aC H20 H21/\aO K H21 (((bs2.take j).map (ren n.toNat fun x=>(x+far) % n)).map fZ) es) (bP (by omega)) ⟨none,none,rfl⟩ ⟨aC.refl _,aL.mpr rfl⟩ ?_ (fun j es H21 ⟨s21,_⟩=>SqL.of (s21 _ _ hfp20)) ?_ ?_⟩
       ·rintro j es H21 ⟨_,d21⟩
        rw [aK d21,Qa,Qa,Jd]
        exact Jt _ _
       ·rintro j es σ yv H21 hyv ⟨v,w,rfl⟩ ⟨s21,d21⟩ hz
        obtain ⟨q,hq,hqd⟩:=bM (s21.denAll _ _ dfp20) hyv
        obtain ⟨pp,pq,pr,rfl,hpp,hpq,hpr⟩:=hX hqd
        have hqm:=Qe hq
        obtain ⟨q1,q2,q3,q4,q5⟩:=hblk q hqm
        have qnd:q.1.Nodup:=by
         have:=aCl (iO _) hbl q hqm
         exact this
        refine ⟨pp,_,rfl,hpp,rfl,_,_,rfl,_,_,rfl,rfl,?_⟩
        refine ⟨_,rfl,pq,rfl,⟨_,hpq⟩,gO (K:=K) (a:=pq) (xs:=q.1.map V.int) (vs:=(q.1.map fun x=>(x+far) % n).map V.int) (fun σ=>∃ v,σ = [v,some (.ref bk),some (.int far)]) (by rw [Qa]; omega) (by simp) hpq ⟨none,rfl⟩ ?_ ?_⟩
        ·rintro m u v σ H22 hu hv ⟨v0,rfl⟩ s22 Q' k'
         obtain ⟨x,hx2,rfl⟩:=eQ hu
         rw [Qg,Qg,hx2] at hv
         cases hv
         exact ⟨_,rfl,_,rfl,_,_,rfl,rfl,_,rfl,bk,_,0,.int n,rfl,rfl,(s21.trans s22).seqT hc20,rfl,_,_,rfl,rfl,(show (0:Int) < n by omega),k' _ _ ⟨_,rfl⟩ (aC.refl _)⟩
        ·intro H22 s22 pl3 hpl3
         refine ⟨pl3,q.1.map fun x=>(x+far) % n,rfl,.inl (SqL.of aB),by rw [Qa]; omega,fun p3 ms hp3 hpm hps=>?_⟩
         have ems:ms=srt n.toNat (q.1.map fun x=>(x+far) % n):=lV (hpm.trans (R.perm q3 qnd).symm) hps (srtp _)
         subst ems
         refine ⟨p3,_,rfl,.inl ⟨SqL.of aB,fun pt hpt=>?_⟩⟩
         have s23:=s22.trans ((aC.new (o:=.lst ((q.1.map fun x=>(x+far) % n).map V.int)) hpl3).trans ((aC.new (o:=.lst ((srt n.toNat (q.1.map fun x=>(x+far) % n)).map V.int)) hp3).trans (aC.new (o:=.tup ((srt n.toNat (q.1.map fun x=>(x+far) % n)).map V.int)) hpt)))
         refine ⟨_,rfl,sz2 _ _,fun pn hpn=>⟨hz,⟨_,_,rfl⟩,s21.trans (s23.trans (aC.new hpn)),?_⟩⟩
         rw [bQ hq,Qp,Qp]
         refine bC ((s23.trans (aC.new hpn)).denAll _ _ d21) (aJ.mpr ⟨_,_,rfl,rD (b:=ren n.toNat (fun x=>(x+far) % n) q) (SqT.of aB) ((aC.new hpn).seqT (SqT.of aB)) ?_,aL.mpr rfl⟩)
         have el:(srt n.toNat (q.1.map fun x=>(x+far) % n)).length=q.1.length:=by rw [(R.perm q3 qnd).length_eq,Qa]
         show SqT K _ pr [.int (bU (q.2,((srt n.toNat (q.1.map fun x=>(x+far) % n)).length:Int))).1,.int (bU (q.2,((srt n.toNat (q.1.map fun x=>(x+far) % n)).length:Int))).2]
         rw [el]
         exact (s23.trans (aC.new hpn)).seqT hpr
       ·rintro es H21 ⟨s21,d21⟩ dp hdp
        rw [F10.len,Jk] at d21
        have s22:=s21.trans (aC.new (o:=.lst es) hdp)
        have ed:upd H21 dp (.lst es) dp=some (.lst es):=aB
        have d22:=(aC.new (o:=.lst es) hdp).denAll _ _ d21
        have hdpf:dp≠fp:=fun z=>by rw [z,s21 _ _ hfp20] at hdp; cases hdp
        generalize upd H21 dp (.lst es)=H22 at s22 ed d22 ⊢
        have hbn:dE (dZ n (ws.map fun l=>srt n.toNat (l.map fun x=>(x+far) % n)))=true:=uD hn1 hn6 (by rw [Qa]; exact h12) fun l' hl'=>by
         obtain ⟨l,hl,rfl⟩:=Qx.mp hl'
         obtain ⟨u1,u2,u3,u4⟩:=hwu l hl
         refine uC (fun z=>?_) (fun x hx=>?_) (srtq _)
         ·have:=(R.perm u1 u2).length_eq
          rw [z,Qa] at this
          exact u4 (Za.mp this.symm)
         ·have:=cH.mp (Qr.mp hx).1
          omega
        have hwtn:oF (ws.map fun l=>srt n.toNat (l.map fun x=>(x+far) % n)) wt:=⟨by rw [Qa]; exact hwtl,hwt.2⟩
        have hblr:bX (aQ n.toNat) ((ws.map fun l=>srt n.toNat (l.map fun x=>(x+far) % n)).zip wt) (bs2.map (ren n.toNat fun x=>(x+far) % n)):=by
         have:=zW R (fun x hx=>hx) (iO _) RO hbl
         rw [aDj R,aDq] at this
         exact this
        refine ⟨_,rfl,bk,_,0,.int n,rfl,rfl,s22.seqT hc20,rfl,_,rfl,sz2 _ _,fun nb hnb=>?_⟩
        have s23:=aC.new (o:=.tup [.int n,.ref wkp]) hnb
        have s2023:=s22.trans s23
        refine ⟨_,rfl,_,n,_,wp,wt,rfl,lQ (SqT.of aB) (s2023.seqT ewk) (s2023.denAll _ _ d20),hbn,s2023.seqT hwp20,hwtn,fun p4 us4 bs4 H24 s24 np4 hp4 d4 hbl4 _=>?_⟩
        have e4:bs4=bs2.map (ren n.toNat fun x=>(x+far) % n):=jE (gI hbn hwtn).1 hbl4 hblr
        subst e4
        have s2224:=s23.trans s24
        refine ⟨_,rfl,.list ((bs2.map (ren n.toNat fun x=>(x+far) % n)).map fZ),.list ((bs2.map (ren n.toNat fun x=>(x+far) % n)).map fZ),bT.mpr ⟨p4,us4,rfl,SqL.of hp4,d4⟩,bT.mpr ⟨dp,es,rfl,SqL.of (s2224 _ _ ed),s2224.denAll _ _ d22⟩,eO _,eO _,eP _,eP _,_,rfl,?_⟩
        rw [nM]
        refine eF ?_
        have s2024:=s22.trans s2224
        -- the told list emptied
        have hfp24:=s2024 _ _ hfp20
        refine ⟨_,rfl,.inl ⟨rfl,_,SqL.of hfp24⟩,fp,us,rfl,rfl,hfp24,?_⟩
        have b25:But fp H24 (upd H24 fp (.lst [])):=But.at
        have ed25:upd H24 fp (.lst []) dp=some (.lst es):=(aG hdpf).trans (s2224 _ _ ed)
        have dd25:=b25.denAll hfp24 _ _ (cL fZ kP _) (s2224.denAll _ _ d22)
        have hc25:=b25.seqT hfp24 (s2024.seqT hc20)
        have ewk25:=b25.seqT hfp24 (s2024.seqT ewk)
        have dwk25:=b25.denAll hfp24 _ _ (cL _ fO _) (s2024.denAll _ _ d20)
        have hwp25:=b25.seqT hfp24 (s2024.seqT hwp20)
        have sEnd:aC H1 (upd H24 fp (.lst [])):=by
         have h0:aC H1 H18:=bS ((b5.trans b7).trans ((But.of (s9.trans s917)).trans b18))
         have h1:aC H1 H24:=h0.trans (s20.trans s2024)
         have nfp1:H1 fp=none:=by
          have:aC H1 H9:=bS ((b5.trans b7).trans (But.of s9))
          exact this.free nfp
         exact h1.wr nfp1
        generalize upd H24 fp (.lst [])=H25 at b25 ed25 dd25 hc25 ewk25 dwk25 hwp25 sEnd ⊢
        -- the works in the other order
        refine ⟨_,rfl,bk,_,0,.int n,rfl,rfl,hc25,rfl,_,rfl,_,rfl,rfl,wkp,cs,rfl,ewk25,fun rp hrp=>⟨sz2 _ _,fun nb2 hnb2=>?_⟩⟩
        have s26:=(aC.new (o:=.tup cs.reverse) hrp).trans (aC.new (o:=.tup [.int n,.ref rp]) hnb2)
        have D26:Den K (upd (upd H25 rp (.tup cs.reverse)) nb2 (.tup [.int n,.ref rp])) (dZ n (ws.map fun l=>srt n.toNat (l.map fun x=>(x+far) % n)).reverse) (.ref nb2):=by
         refine lQ (SqT.of aB) ((aC.new hnb2).seqT (SqT.of aB)) ?_
         rw [Wc]
         exact rO (s26.denAll _ _ dwk25)
        have hwp26:=s26.seqT hwp25
        have ed26:=s26 _ _ ed25
        have dd26:=s26.denAll _ _ dd25
        generalize upd (upd H25 rp (.tup cs.reverse)) nb2 (.tup [.int n,.ref rp])=H26 at s26 D26 hwp26 ed26 dd26 ⊢
        refine ⟨_,rfl,_,rfl,rfl,wp,_,rfl,hwp26,fun wr hwr=>?_⟩
        have s27:=aC.new (o:=.tup (wt.map V.int).reverse) hwr
        have hbnr:dE (dZ n (ws.map fun l=>srt n.toNat (l.map fun x=>(x+far) % n)).reverse)=true:=by
         obtain ⟨x1,x2,x3,x4⟩:=cO hbn
         exact uD x1 x2 (by rw [Xp]; exact x3) fun l hl=>x4 l (List.mem_reverse.mp hl)
        have hwtr:oF (ws.map fun l=>srt n.toNat (l.map fun x=>(x+far) % n)).reverse wt.reverse:=⟨by rw [Xp,Xp]; exact hwtn.1,fun x hx=>hwt.2 x (List.mem_reverse.mp hx)⟩
        refine ⟨_,n,_,wr,wt.reverse,rfl,s27.den _ _ D26,hbnr,?_,hwtr,fun p5 us5 bs5 H28 s28 np5 hp5 d5 hbl5 _=>?_⟩
        ·rw [Wc]
         exact SqT.of aB
        have e5:bs5=bs2.map (ren n.toNat fun x=>(x+far) % n):=by
         refine jE (gI hbnr hwtr).1 hbl5 (xD ?_ hblr)
         rw [aDs _ _ hwtn.1]
         exact (List.reverse_perm _).symm
        subst e5
        refine ⟨_,rfl,.list ((bs2.map (ren n.toNat fun x=>(x+far) % n)).map fZ),.list ((bs2.map (ren n.toNat fun x=>(x+far) % n)).map fZ),bT.mpr ⟨p5,us5,rfl,SqL.of hp5,d5⟩,bT.mpr ⟨dp,es,rfl,SqL.of ((s27.trans s28) _ _ ed26),(s27.trans s28).denAll _ _ dd26⟩,eO _,eO _,eP _,eP _,_,rfl,?_⟩
        rw [nM]
        refine eF ?_
        exact ⟨⟨_,_,_,_,_,_,_,_,_,rfl⟩,(sEnd.trans (s26.trans (s27.trans s28))).seqL hs1⟩
  ·rintro σ H1 ⟨⟨v1,v2,v3,v4,v5,v6,v7,v8,v9,rfl⟩,hs1⟩
   exact k _
end
end Ab
namespace Ab
open PySem L2 PyProof.Rows
theorem cM {K:PySem.W.Frag} {h:Heap} {mg:Str->Option Value} (X:K.In h) (G:h.Ns mainGlobals mg) {x:Str} {st:Stmt} {ps:List Str} {f:Addr} {oc:Value} {od an:Option Addr} {osl:Array (Option Value)} {kV doc pm cdv ct:Value}
  (hb:∀ (kV doc pm:Value) (an:Option Addr) (cdv ct:Value) (us:List Value),us.length=ps.length->bindArgs (PySem.W.fnOf x x (lK st) (gK st) (aF st) .none kV doc pm an cdv ct) ⟨us,[]⟩=pure (ps.zip us))
  (a:PySem.W.nsIn K mainGlobals x=some (some (.ref f))) (l:K.lookup f=some ⟨oc,od,.func (PySem.W.fnOf x x (lK st) (gK st) (aF st) .none kV doc pm an cdv ct),osl⟩) (c:PySem.W.codeIn K cdv x=true) (k:PySem.W.keepIn K (.ref f)=true) :
  ∃ f fd,Fn K mg x st ps f fd:=by
 have F:=aD5 (st:=st) l c k
 exact ⟨f,_,F,PySem.W.mg_of X G a,k,F.binds hb⟩
theorem aFh {K:PySem.W.Frag} {h:Heap} {mg:Str->Option Value} (X:K.In h) (G:h.Ns mainGlobals mg) {t6 t12 t20 t21:Tok}
  (z0:PySem.W.nsIn K mainGlobals "isinstance" = some none)
  (z1:PySem.W.nsIn K mainGlobals "int" = some none)
  (z2:PySem.W.nsIn K mainGlobals "bool" = some none)
  (z3:PySem.W.nsIn K mainGlobals "tuple" = some none)
  (z4:PySem.W.nsIn K mainGlobals "list" = some none)
  (z5:PySem.W.nsIn K mainGlobals "len" = some none)
  (z6:PySem.W.nsIn K mainGlobals "all" = some none)
  (z7:PySem.W.nsIn K mainGlobals "zip" = some none)
  (z8:PySem.W.nsIn K mainGlobals "range" = some none)
  (z9:PySem.W.nsIn K mainGlobals "sorted" = some none)
  (z10:PySem.W.nsIn K mainGlobals "set" = some none)
  (z11:PySem.W.nsIn K mainGlobals "sum" = some none)
  (z12:PySem.W.nsIn K mainGlobals "repr" = some none)
  (z13:PySem.W.nsIn K mainGlobals "max" = some none)
  (z14:PySem.W.nsIn K mainGlobals "min" = some none)
  (z15:PySem.W.nsIn K mainGlobals "any" = some none)
  (z16:PySem.W.nsIn K mainGlobals "enumerate" = some none)
  (zA:PySem.W.nsIn K mainGlobals "MOST_HANDS" = some (some (.int 6 t6))) (zB:PySem.W.nsIn K mainGlobals "MOST_WORKS" = some (some (.int 12 t12))) (zK0:PySem.W.nsIn K mainGlobals "MOST_WEIGHT" = some (some (.int 99 t20))) (zK1:PySem.W.nsIn K mainGlobals "UNITS" = some (some (.int 60 t21))):Bl mg :=
 ⟨PySem.W.mg_none_of X G z0,PySem.W.mg_none_of X G z1,PySem.W.mg_none_of X G z2,PySem.W.mg_none_of X G z3,PySem.W.mg_none_of X G z4,PySem.W.mg_none_of X G z5,PySem.W.mg_none_of X G z6,PySem.W.mg_none_of X G z7,PySem.W.mg_none_of X G z8,PySem.W.mg_none_of X G z9,PySem.W.mg_none_of X G z10,PySem.W.mg_none_of X G z11,PySem.W.mg_none_of X G z12,PySem.W.mg_none_of X G z13,PySem.W.mg_none_of X G z14,PySem.W.mg_none_of X G z15,PySem.W.mg_none_of X G z16,⟨_,PySem.W.mg_of X G zA⟩,⟨_,PySem.W.mg_of X G zB⟩,⟨_,PySem.W.mg_of X G zK0⟩,⟨_,PySem.W.mg_of X G zK1⟩⟩
theorem aDt {l:PySem.W.OpenLaw} {w:World} {K:PySem.W.Frag} {mg:Str->Option Value} {fa:Addr} (hfa:mg "law" = some (.ref fa)) (B:Bl mg)
  (hW:∃ f fd,Fn K mg "is_whole" mG ["thing"] f fd)
  (hH:∃ f fd,Fn K mg "are_hands" qE ["thing"] f fd)
  (hKw:∃ f fd,Fn K mg "is_work" qF ["hands", "thing"] f fd)
  (hBP:∃ f fd,Fn K mg "is_book" qG ["thing"] f fd)
  (hNB:∃ f fd,Fn K mg "need_book" xQ ["book"] f fd)
  (hCM:∃ f fd,Fn K mg "common" oZ ["a", "b"] f fd)
  (hLO:∃ f fd,Fn K mg "lowest" mT ["a", "b"] f fd)
  (hIL:∃ f fd,Fn K mg "is_less" zD ["one", "other"] f fd)
  (hAW:∃ f fd,Fn K mg "are_weights" qH ["book", "thing"] f fd)
  (hNW:∃ f fd,Fn K mg "need_weights" pA ["book", "weights"] f fd)
  (hWI:∃ f fd,Fn K mg "is_within" lL ["able", "some"] f fd)
  (hST:∃ f fd,Fn K mg "sets_of" wI ["hands"] f fd)
  (hHV:∃ f fd,Fn K mg "heaviest" jU ["hands", "rows"] f fd)
  (hBK:∃ f fd,Fn K mg "blocks" gQ ["book", "weights"] f fd)
  (hRC:∃ f fd,Fn K mg "reached" mU ["rows", "first"] f fd)
  (hWY:∃ f fd,Fn K mg "way_to" tY ["found", "last"] f fd)
  (hHA:∃ f fd,Fn K mg "handing_parts" qI ["takers", "held", "many"] f fd)
  (hSP:∃ f fd,Fn K mg "spread" jH ["takers", "amounts", "rooms"] f fd)
  (hLL:∃ f fd,Fn K mg "least_loaded" kH ["able", "loads"] f fd)
  (hPA:∃ f fd,Fn K mg "part_loads" nY ["book", "weights"] f fd)
  (hIP:∃ f fd,Fn K mg "in_parts" gH ["book", "weights"] f fd)
  (hCE:∃ f fd,Fn K mg "_law_acell" zE ["script", "k"] f fd)
  (hTA:∃ f fd,Fn K mg "_law_atape" zF ["script", "k"] f fd)
  (hDG:∃ f fd,Fn K mg "_law_adigit" lM ["tape", "many"] f fd)
  (hAH:∃ f fd,Fn K mg "_law_awhole" mV ["found"] f fd)
  (hAL:∃ f fd,Fn K mg "_law_alow" wJ ["a", "b"] f fd)
  (hNM:∃ f fd,Fn K mg "_law_ano_more" mW ["one", "other"] f fd)
  (hAB:∃ f fd,Fn K mg "_law_abook" qJ ["tape", "hands", "works"] f fd)
  (hWT:∃ f fd,Fn K mg "_law_aweights" aBD ["tape", "many"] f fd)
  (hAF:∃ f fd,Fn K mg "_law_afraction" tZ ["thing"] f fd)
  (hFS:∃ f fd,Fn K mg "first_set" tX ["book", "weights"] f fd)
  (hSE:∃ f fd,Fn K mg "_law_asets" qK ["n"] f fd)
  (hFI:∃ f fd,Fn K mg "_law_afirst_right" lN ["book", "weights", "found"] f fd)
  (hRI:∃ f fd,Fn K mg "_law_aright" kI ["book", "weights", "found"] f fd)
  (hLW:∃ f fd,Fn K mg "law" oV ["script"] f fd)
  : ∃ fd:FuncData,(∀ (s:Shared) (v:Value),BindsTo s fd ⟨[v],[]⟩ [("script",v)])/\∀ base:Heap,K.In base->base.Ns mainGlobals mg->FnOk l.prog w K mg base CX0 11 fa fd ["script"] (zX K):=by
 obtain ⟨fW,dW,W⟩:=hW
 obtain ⟨fH,dH,H⟩:=hH
 obtain ⟨fKw,dKw,Kw⟩:=hKw
 obtain ⟨fBP,dBP,BP⟩:=hBP
 obtain ⟨fNB,dNB,NB⟩:=hNB
 obtain ⟨fCM,dCM,CM⟩:=hCM
 obtain ⟨fLO,dLO,LO⟩:=hLO
 obtain ⟨fIL,dIL,IL⟩:=hIL
 obtain ⟨fAW,dAW,AW⟩:=hAW
 obtain ⟨fNW,dNW,NW⟩:=hNW
 obtain ⟨fWI,dWI,WI⟩:=hWI
 obtain ⟨fST,dST,ST⟩:=hST
 obtain ⟨fHV,dHV,HV⟩:=hHV
 obtain ⟨fBK,dBK,BK⟩:=hBK
 obtain ⟨fRC,dRC,RC⟩:=hRC
 obtain ⟨fWY,dWY,WY⟩:=hWY
 obtain ⟨fHA,dHA,HA⟩:=hHA
 obtain ⟨fSP,dSP,SP⟩:=hSP
 obtain ⟨fLL,dLL,LL⟩:=hLL
 obtain ⟨fPA,dPA,PA⟩:=hPA
 obtain ⟨fIP,dIP,IP⟩:=hIP
 obtain ⟨fCE,dCE,CE⟩:=hCE
 obtain ⟨fTA,dTA,TA⟩:=hTA
 obtain ⟨fDG,dDG,DG⟩:=hDG
 obtain ⟨fAH,dAH,AH⟩:=hAH
 obtain ⟨fAL,dAL,AL⟩:=hAL
 obtain ⟨fNM,dNM,NM⟩:=hNM
 obtain ⟨fAB,dAB,AB⟩:=hAB
 obtain ⟨fWT,dWT,WT⟩:=hWT
 obtain ⟨fAF,dAF,AF⟩:=hAF
 obtain ⟨fFS,dFS,FS⟩:=hFS
 obtain ⟨fSE,dSE,SE⟩:=hSE
 obtain ⟨fFI,dFI,FI⟩:=hFI
 obtain ⟨fRI,dRI,RI⟩:=hRI
 obtain ⟨fLW,dLW,LW⟩:=hLW
 have e:=hfa.symm.trans LW.mgx
 cases e
 have R:Pr K mg fW fH fKw fBP fNB dW dH dKw dBP dNB:=⟨W,H,Kw,BP,NB⟩
 refine ⟨dLW,fun s v=>?_,fun base _ _=>?_⟩
 ·obtain ⟨oc,od,kV,doc,pm,an,cdv,ct,osl,rfl,lk,hcd⟩:=LW.fn.ex
  exact .of_eq rfl
 ·have ODG:FnOk l.prog w K mg base CX0 1 fDG dDG ["tape", "many"] (mX K):=aBM DG B
  have OLO:FnOk l.prog w K mg base CX0 2 fLO dLO ["a", "b"] (iE):=aAA LO B CM
  have OIL:FnOk l.prog w K mg base CX0 1 fIL dIL ["one", "other"] (xW K):=aC5 IL
  have OAW:FnOk l.prog w K mg base CX0 5 fAW dAW ["book", "thing"] (uK K):=aBZ AW B R
  have ONW:FnOk l.prog w K mg base CX0 6 fNW dNW ["book", "weights"] (rB K):=aAE NW AW OAW
  have OWI:FnOk l.prog w K mg base CX0 1 fWI dWI ["able", "some"] (nF K):=aAF WI B
  have OST:FnOk l.prog w K mg base CX0 1 fST dST ["hands"] (xY K):=aDa ST B
  have OHV:FnOk l.prog w K mg base CX0 2 fHV dHV ["hands", "rows"] (xZ K):=aDb HV B ST OST WI OWI
  have OBK:FnOk l.prog w K mg base CX0 7 fBK dBK ["book", "weights"] (lG K):=aAG BK B NW ONW HV OHV LO OLO WI OWI
  have ORC:FnOk l.prog w K mg base CX0 1 fRC dRC ["rows", "first"] (oH K):=yA RC B
  have OWY:FnOk l.prog w K mg base CX0 1 fWY dWY ["found", "last"] (uM K):=aB3 WY B
  have OHA:FnOk l.prog w K mg base CX0 1 fHA dHA ["takers", "held", "many"] (uO K):=aB4 HA B
  have OSP:FnOk l.prog w K mg base CX0 2 fSP dSP ["takers", "amounts", "rooms"] (rF K):=aAH SP B RC ORC WY OWY HA OHA
  have OLL:FnOk l.prog w K mg base CX0 2 fLL dLL ["able", "loads"] (rG K):=aAJ LL B IL OIL
  have OPA:FnOk l.prog w K mg base CX0 8 fPA dPA ["book", "weights"] (uQ K):=aB8 PA B BK OBK
  have OIP:FnOk l.prog w K mg base CX0 9 fIP dIP ["book", "weights"] (oI K):=yB IP B PA OPA LL OLL SP OSP LO OLO
  have OAH:FnOk l.prog w K mg base CX0 1 fAH dAH ["found"] (nC):=aAB AH B
  have OAL:FnOk l.prog w K mg base CX0 1 fAL dAL ["a", "b"] (iE):=aC7 AL
  have ONM:FnOk l.prog w K mg base CX0 1 fNM dNM ["one", "other"] (qZ K):=aAD NM
  have OAF:FnOk l.prog w K mg base CX0 2 fAF dAF ["thing"] (uJ K):=aBX AF B AH OAH
  have OFS:FnOk l.prog w K mg base CX0 8 fFS dFS ["book", "weights"] (uT K):=aCh FS BK OBK
  have OSE:FnOk l.prog w K mg base CX0 1 fSE dSE ["n"] (uU K):=aCi SE B
  have OFI:FnOk l.prog w K mg base CX0 9 fFI dFI ["book", "weights", "found"] (kA K):=aAT FI B SE OSE FS OFS
  have ORI:FnOk l.prog w K mg base CX0 10 fRI dRI ["book", "weights", "found"] (kA K):=aAU RI B AF OAF AL OAL AH OAH NM ONM IP OIP FI OFI
  exact aEp LW B TA (aCZ TA B CE) AB (aBN AB B DG ODG) WT (aEm WT B DG ODG) BK OBK RI ORI AL OAL DG ODG
theorem walk {l:PySem.W.OpenLaw} {q:Program} {loose:List Str} {XP:(Str->Option Value)->Heap->Prop} {YP:World->Heap->Prop} {d:DefRec} {K:Params->PySem.W.Frag} (hn:l.most=some 63) (hdf:d.params.defaults = []) (hq:importsNone q=true)
  (hY:∀ (w:World) (h:Heap),YP w h->(K w.params).In h)
  (F:∀ (w:World) (mg:Str->Option Value) (fa:Addr) (h:Heap),(K w.params).In h->h.Ns mainGlobals mg->mg d.name=some (.ref fa) ->
   ∃ fd:FuncData,(∀ (s:Shared) (u:Value),BindsTo s fd ⟨[u],[]⟩ [("script",u)])/\∀ base:Heap,(K w.params).In base->base.Ns mainGlobals mg->FnOk l.prog w (K w.params) mg base CX0 11 fa fd ["script"] (zX (K w.params))) :
  PySem.W.WalkO q loose XP YP l.row.toRowW d [] (fun f vs=>PySem.call f vs) :=
 L2.aCy (n:=63) (k:=11) (x := "script") (CX:=fun _=>CX0) (sp:=fun w=>zX (K w.params)) hn (by decide) hdf ⟨rfl,by decide,by decide,rfl⟩ hq hY F (fun _ _ a ns _ _ hS=>⟨a,ns,rfl,hS,fun _=>rfl⟩) fun _ _ _ _ _ z=>z
end Ab
open PySem PySem.W PyProof.Rows
set_option maxRecDepth 100000 in
set_option maxHeartbeats 0 in
theorem PySem.Challenge.cw_ablehands_k24_whole_blocks_and_loads_holds : PySem.Challenge.rw_ablehands_k24_whole_blocks_and_loads.Holds := by
 w_on; o_law; k_head; (case hw=>w_witness2)
 k_fill
 refine Ab.walk (l:=PySem.Challenge.rw_ablehands_k24_whole_blocks_and_loads) rfl rfl (by decide +kernel) (fun w h Y=>PySem.W.kIn_of Y) ?F
 case F =>
  intro w mg fa h KX G hmg
  refine' Ab.aDt hmg ?B ?hW ?hH ?hKw ?hBP ?hNB ?hCM ?hLO ?hIL ?hAW ?hNW ?hWI ?hST ?hHV ?hBK ?hRC ?hWY ?hHA ?hSP ?hLL ?hPA ?hIP ?hCE ?hTA ?hDG ?hAH ?hAL ?hNM ?hAB ?hWT ?hAF ?hFS ?hSE ?hFI ?hRI ?hLW
  case B =>
   refine' Ab.aFh KX G ?z0 ?z1 ?z2 ?z3 ?z4 ?z5 ?z6 ?z7 ?z8 ?z9 ?z10 ?z11 ?z12 ?z13 ?z14 ?z15 ?z16 ?zA ?zB ?zK0 ?zK1
   (case z0=>k_is)
   (case z1=>k_is)
   (case z2=>k_is)
   (case z3=>k_is)
   (case z4=>k_is)
   (case z5=>k_is)
   (case z6=>k_is)
   (case z7=>k_is)
   (case z8=>k_is)
   (case z9=>k_is)
   (case z10=>k_is)
   (case z11=>k_is)
   (case z12=>k_is)
   (case z13=>k_is)
   (case z14=>k_is)
   (case z15=>k_is)
   (case z16=>k_is)
   (case zA=>k_is)
   (case zB=>k_is)
   (case zK0=>k_is)
   (case zK1=>k_is)
  case hW =>
   refine' Ab.cM KX G (fun _ _ _ _ _ _ us hl=>match us,hl with | [_],_=>rfl) ?a ?l ?c ?k
   (case a=>k_is); (case l=>k_is); (case c=>k_is); (case k=>k_is)
  case hH =>
   refine' Ab.cM KX G (fun _ _ _ _ _ _ us hl=>match us,hl with | [_],_=>rfl) ?a ?l ?c ?k
   (case a=>k_is); (case l=>k_is); (case c=>k_is); (case k=>k_is)
  case hKw =>
   refine' Ab.cM KX G (fun _ _ _ _ _ _ us hl=>match us,hl with | [_,_],_=>rfl) ?a ?l ?c ?k
   (case a=>k_is); (case l=>k_is); (case c=>k_is); (case k=>k_is)
  case hBP =>
   refine' Ab.cM KX G (fun _ _ _ _ _ _ us hl=>match us,hl with | [_],_=>rfl) ?a ?l ?c ?k
   (case a=>k_is); (case l=>k_is); (case c=>k_is); (case k=>k_is)
  case hNB =>
   refine' Ab.cM KX G (fun _ _ _ _ _ _ us hl=>match us,hl with | [_],_=>rfl) ?a ?l ?c ?k
   (case a=>k_is); (case l=>k_is); (case c=>k_is); (case k=>k_is)
  case hCM =>
   refine' Ab.cM KX G (fun _ _ _ _ _ _ us hl=>match us,hl with | [_,_],_=>rfl) ?a ?l ?c ?k
   (case a=>k_is); (case l=>k_is); (case c=>k_is); (case k=>k_is)
  case hLO =>
   refine' Ab.cM KX G (fun _ _ _ _ _ _ us hl=>match us,hl with | [_,_],_=>rfl) ?a ?l ?c ?k
   (case a=>k_is); (case l=>k_is); (case c=>k_is); (case k=>k_is)
  case hIL =>
   refine' Ab.cM KX G (fun _ _ _ _ _ _ us hl=>match us,hl with | [_,_],_=>rfl) ?a ?l ?c ?k
   (case a=>k_is); (case l=>k_is); (case c=>k_is); (case k=>k_is)
  case hAW =>
   refine' Ab.cM KX G (fun _ _ _ _ _ _ us hl=>match us,hl with | [_,_],_=>rfl) ?a ?l ?c ?k
   (case a=>k_is); (case l=>k_is); (case c=>k_is); (case k=>k_is)
  case hNW =>
   refine' Ab.cM KX G (fun _ _ _ _ _ _ us hl=>match us,hl with | [_,_],_=>rfl) ?a ?l ?c ?k
   (case a=>k_is); (case l=>k_is); (case c=>k_is); (case k=>k_is)
  case hWI =>
   refine' Ab.cM KX G (fun _ _ _ _ _ _ us hl=>match us,hl with | [_,_],_=>rfl) ?a ?l ?c ?k
   (case a=>k_is); (case l=>k_is); (case c=>k_is); (case k=>k_is)
  case hST =>
   refine' Ab.cM KX G (fun _ _ _ _ _ _ us hl=>match us,hl with | [_],_=>rfl) ?a ?l ?c ?k
   (case a=>k_is); (case l=>k_is); (case c=>k_is); (case k=>k_is)
  case hHV =>
   refine' Ab.cM KX G (fun _ _ _ _ _ _ us hl=>match us,hl with | [_,_],_=>rfl) ?a ?l ?c ?k
   (case a=>k_is); (case l=>k_is); (case c=>k_is); (case k=>k_is)
  case hBK =>
   refine' Ab.cM KX G (fun _ _ _ _ _ _ us hl=>match us,hl with | [_,_],_=>rfl) ?a ?l ?c ?k
   (case a=>k_is); (case l=>k_is); (case c=>k_is); (case k=>k_is)
  case hRC =>
   refine' Ab.cM KX G (fun _ _ _ _ _ _ us hl=>match us,hl with | [_,_],_=>rfl) ?a ?l ?c ?k
   (case a=>k_is); (case l=>k_is); (case c=>k_is); (case k=>k_is)
  case hWY =>
   refine' Ab.cM KX G (fun _ _ _ _ _ _ us hl=>match us,hl with | [_,_],_=>rfl) ?a ?l ?c ?k
   (case a=>k_is); (case l=>k_is); (case c=>k_is); (case k=>k_is)
  case hHA =>
   refine' Ab.cM KX G (fun _ _ _ _ _ _ us hl=>match us,hl with | [_,_,_],_=>rfl) ?a ?l ?c ?k
   (case a=>k_is); (case l=>k_is); (case c=>k_is); (case k=>k_is)
  case hSP =>
   refine' Ab.cM KX G (fun _ _ _ _ _ _ us hl=>match us,hl with | [_,_,_],_=>rfl) ?a ?l ?c ?k
   (case a=>k_is); (case l=>k_is); (case c=>k_is); (case k=>k_is)
  case hLL =>
   refine' Ab.cM KX G (fun _ _ _ _ _ _ us hl=>match us,hl with | [_,_],_=>rfl) ?a ?l ?c ?k
   (case a=>k_is); (case l=>k_is); (case c=>k_is); (case k=>k_is)
  case hPA =>
   refine' Ab.cM KX G (fun _ _ _ _ _ _ us hl=>match us,hl with | [_,_],_=>rfl) ?a ?l ?c ?k
   (case a=>k_is); (case l=>k_is); (case c=>k_is); (case k=>k_is)
  case hIP =>
   refine' Ab.cM KX G (fun _ _ _ _ _ _ us hl=>match us,hl with | [_,_],_=>rfl) ?a ?l ?c ?k
   (case a=>k_is); (case l=>k_is); (case c=>k_is); (case k=>k_is)
  case hCE =>
   refine' Ab.cM KX G (fun _ _ _ _ _ _ us hl=>match us,hl with | [_,_],_=>rfl) ?a ?l ?c ?k
   (case a=>k_is); (case l=>k_is); (case c=>k_is); (case k=>k_is)
  case hTA =>
   refine' Ab.cM KX G (fun _ _ _ _ _ _ us hl=>match us,hl with | [_,_],_=>rfl) ?a ?l ?c ?k
   (case a=>k_is); (case l=>k_is); (case c=>k_is); (case k=>k_is)
  case hDG =>
   refine' Ab.cM KX G (fun _ _ _ _ _ _ us hl=>match us,hl with | [_,_],_=>rfl) ?a ?l ?c ?k
   (case a=>k_is); (case l=>k_is); (case c=>k_is); (case k=>k_is)
  case hAH =>
   refine' Ab.cM KX G (fun _ _ _ _ _ _ us hl=>match us,hl with | [_],_=>rfl) ?a ?l ?c ?k
   (case a=>k_is); (case l=>k_is); (case c=>k_is); (case k=>k_is)
  case hAL =>
   refine' Ab.cM KX G (fun _ _ _ _ _ _ us hl=>match us,hl with | [_,_],_=>rfl) ?a ?l ?c ?k
   (case a=>k_is); (case l=>k_is); (case c=>k_is); (case k=>k_is)
  case hNM =>
   refine' Ab.cM KX G (fun _ _ _ _ _ _ us hl=>match us,hl with | [_,_],_=>rfl) ?a ?l ?c ?k
   (case a=>k_is); (case l=>k_is); (case c=>k_is); (case k=>k_is)
  case hAB =>
   refine' Ab.cM KX G (fun _ _ _ _ _ _ us hl=>match us,hl with | [_,_,_],_=>rfl) ?a ?l ?c ?k
   (case a=>k_is); (case l=>k_is); (case c=>k_is); (case k=>k_is)
  case hWT =>
   refine' Ab.cM KX G (fun _ _ _ _ _ _ us hl=>match us,hl with | [_,_],_=>rfl) ?a ?l ?c ?k
   (case a=>k_is); (case l=>k_is); (case c=>k_is); (case k=>k_is)
  case hAF =>
   refine' Ab.cM KX G (fun _ _ _ _ _ _ us hl=>match us,hl with | [_],_=>rfl) ?a ?l ?c ?k
   (case a=>k_is); (case l=>k_is); (case c=>k_is); (case k=>k_is)
  case hFS =>
   refine' Ab.cM KX G (fun _ _ _ _ _ _ us hl=>match us,hl with | [_,_],_=>rfl) ?a ?l ?c ?k
   (case a=>k_is); (case l=>k_is); (case c=>k_is); (case k=>k_is)
  case hSE =>
   refine' Ab.cM KX G (fun _ _ _ _ _ _ us hl=>match us,hl with | [_],_=>rfl) ?a ?l ?c ?k
   (case a=>k_is); (case l=>k_is); (case c=>k_is); (case k=>k_is)
  case hFI =>
   refine' Ab.cM KX G (fun _ _ _ _ _ _ us hl=>match us,hl with | [_,_,_],_=>rfl) ?a ?l ?c ?k
   (case a=>k_is); (case l=>k_is); (case c=>k_is); (case k=>k_is)
  case hRI =>
   refine' Ab.cM KX G (fun _ _ _ _ _ _ us hl=>match us,hl with | [_,_,_],_=>rfl) ?a ?l ?c ?k
   (case a=>k_is); (case l=>k_is); (case c=>k_is); (case k=>k_is)
  case hLW =>
   refine' Ab.cM KX G (fun _ _ _ _ _ _ us hl=>match us,hl with | [_],_=>rfl) ?a ?l ?c ?k
   (case a=>k_is); (case l=>k_is); (case c=>k_is); (case k=>k_is)
