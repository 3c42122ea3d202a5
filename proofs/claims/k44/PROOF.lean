import PyProof.Rows.All
import Wide.All
import OpenK.AllK
import Wide.FinOn
import PyProof.EqAt
import PyProof.EqKinds
import PyProof.TupleCall
import KE.KEqDict
import KE.KDictSum
import KE.KSortKey
import KE.KDictOf
import PyProof.AttrMissSeq
import PyProof.ListNew
import PyProof.Rows.TupDisplay
import PyProof.DictCompW
import PyProof.WalksMore
import PyProof.MinMaxWalk
import PyProof.DictDisplay
import PyProof.DictWalks
import Lean
import PySem.Challenge.RW_ablehands_k44_one_long_way
open List renaming getElem?_eq_some_iff -> Qa,getElem?_eq_getElem -> Qb,length_map -> Qd,mem_of_getElem? -> Qe,getElem?_map -> Qg,length_append -> Qh,getElem?_append_left -> Qj,mem_singleton -> Qm,mem_append_right -> Qn,size_toArray -> Qp,mem_cons_of_mem -> Qq,mem_cons_self -> Qr,mem_cons -> Qs,map_cons -> Qu,getElem?_append_right -> Qv,mem_iff_getElem? -> Qw,getElem?_eq_none_iff -> Qx,not_mem_nil -> Qy,length_cons -> Qz,nodup_cons -> Je,map_append -> Jk,mem_append_left -> Jm,getElem?_zip_eq_some -> Jo,mem_append -> Jq,mem_map -> Js,getD_eq_getElem?_getD -> Jt,lookup_cons -> Jv,count_cons -> Jw,nodup_iff_pairwise_ne -> Jy,take_of_length_le -> Xb,length_replicate -> Xc,replicate_succ -> Xd,length_take -> Xe,length_eraseIdx -> Xf,all_eq_true -> Xg,getElem?_set -> Xi,nodup_append -> Xj,getElem?_cons_succ -> Xl,eraseIdx_cons_succ -> Xm,length_zip -> Xn,getElem?_eraseIdx -> Xo,drop_eq_getElem_cons -> Xp,getElem?_replicate -> Xr,append_assoc -> Xs,count_append -> Xu,ext_getElem? -> Xv,mem_filter -> Xw,take_length -> Xy,count_eq_zero -> Xz,zip_cons_cons -> Za,flatten_cons -> Zb,map_map -> Zd,filterMap_cons -> Ze,length_reverse -> Zf,length_eq_zero_iff -> Zg,length_drop -> Zh,any_eq_true -> Zi,take_succ -> Zj,getElem?_take -> Zm,find?_cons -> Zp,getElem?_eq_none -> Zs,eraseIdx_sublist -> Zt,mem_range -> Zu,length -> Zw,map_nil -> Zy,length_erase_of_mem -> Zz,append_nil -> Ya,any_cons -> Yb,nil_append -> Yc,forIn_cons -> Yd,getElem?_cons_zero -> Yf,count_pos_iff -> Yg,getElem?_drop -> Yh,length_pos_of_mem -> Yi,getElem?_reverse -> Ym,cons_append -> Yn,filter_cons -> Yo,replicate_succ' -> Yq,dropLast_concat_getLast -> Ys,of_mem_zip -> Yu,length_set -> Yv,map_congr_left -> Yw,pairwise_cons -> Yz,forIn_nil -> Wa,take_sublist -> Wc,mem_of_mem_eraseIdx -> Wd,drop_sublist -> We,getElem_inj -> Wf,getElem_mem -> Wg,getElem?_set_self -> Wh,drop_eq_nil_of_le -> Wi,length_filter_le -> Wl,zip_append -> Wn,perm_append_comm -> Wo,getElem?_set_ne -> Wp,getElem?_of_mem -> Wq,mem_erase_of_ne -> Wr,take_zero -> Ws,count_nil -> Wt,getElem?_range -> Wu,mem_filterMap -> Wv,filterMap_map -> Ww,filter_append -> Wx,mem_replicate -> Wy
open PySem.Heap renaming get?_push_of_some -> Qc,lt_size -> Qk,get?_push_size -> Ql,get?_update_other -> Jx,size_push -> Xa,get?_update_self -> Zn
open Nat renaming le_refl -> Qi,lt_of_lt_of_le -> Qo,le_trans -> Ja,ne_of_lt -> Jd,lt_irrefl -> Jn,zero_le -> Jz,sub_self -> Xk,lt_succ_of_lt -> Xt,le_of_lt -> Zc,lt_of_le_of_lt -> Zk,min_self -> Zq,lt_succ_self -> Zv,ne_of_gt -> Yk,succ_mul -> Yl,mul_le_mul_right -> Yp,le_succ -> Yt,mul_comm -> Wj,min_eq_left -> Wk,lt_trans -> Wm
open Bool renaming false_ne_true -> Qt,and_eq_true -> Ju,eq_iff_iff -> Xx,false_eq_true -> Ye,true_and -> Yr
open Option renaming map_eq_some_iff -> Jr,map_some -> Xq,isSome_map -> Yj,isSome_iff_exists -> Wb,getD_none -> Qaa
open Int renaming toNat_natCast -> Xh,emod_lt_of_pos -> Zl,zero_add -> Zo,emod_nonneg -> Zr,le_refl -> Zx,toNat_of_nonneg -> Yx,fdiv_eq_ediv_of_nonneg -> Yy,ne_of_lt -> Wz
def PySem.W.Fast.tw2999894990671828883:Nat:=0
def PySem.W.Fast.tw484461560606959535:Nat:=0
def PySem.W.Fast.tw5756677677487654099:Nat:=0
def PySem.W.Fast.tw9302122609714980650:Nat:=0
def PySem.W.Fast.tw18269377930428956518:Nat:=0
def PySem.W.Fast.tw8278336422684382684:Nat:=0
def PySem.W.Fast.tw5713313060249998386:Nat:=0
def PySem.W.Fast.tw2822887329426369289:Nat:=0
def PySem.W.Fast.tw11367498717321053193:Nat:=0
def PySem.W.Fast.tw11724484156533922808:Nat:=0
def PySem.W.Fast.tw15721563706816703939:Nat:=0
def PySem.W.Fast.tw11301877311385317331:Nat:=0
def PySem.W.Fast.tw17104540897794409117:Nat:=0
def PySem.W.Fast.tw10293338669336251481:Nat:=0
def PySem.W.Fast.tw16918713079694386663:Nat:=0
def PySem.W.Fast.tw8633330861312169166:Nat:=0
def PySem.W.Fast.tw9915514644863305170:Nat:=0
def PySem.W.Fast.tw16727447900883815220:Nat:=0
def PySem.W.Fast.tw10892334689487674083:Nat:=0
def PySem.W.Fast.tw17201635246781754289:Nat:=0
def PySem.W.Fast.tw10698615105456813380:Nat:=0
def PySem.W.Fast.tw6049278400684026485:Nat:=0
def PySem.W.Fast.tw10976712332608001333:Nat:=0
def PySem.W.Fast.tw13283220444084615399:Nat:=0
def PySem.W.Fast.tw4751376710665562208:Nat:=0
def PySem.W.Fast.tw11543884486679625236:Nat:=0
def PySem.W.Fast.tw8583594925839896193:Nat:=0
def PySem.W.Fast.tw8176716448887227436:Nat:=0
def PySem.W.Fast.tw6170699472028330645:Nat:=0
def PySem.W.Fast.tw7033414626277694903:Nat:=0
def PySem.W.Fast.tw14330935256165160622:Nat:=0
def PySem.W.Fast.tw11498679275426637516:Nat:=0
def PySem.W.Fast.tw16802754297236130595:Nat:=0
def PySem.W.Fast.tw8231521611465495233:Nat:=0
def PySem.W.Fast.tw1441660371948347112:Nat:=0
def PySem.W.Fast.tw10164813483708528091:Nat:=0
def PySem.W.Fast.tw16265136877888810046:Nat:=0
def PySem.W.Fast.tw5088908899595672075:Nat:=0
def PySem.W.Fast.tw7241401937059642120:Nat:=0
def PySem.W.Fast.tw8993858976295893415:Nat:=0
def PySem.W.Fast.tw17958347304617741360:Nat:=0
def PySem.W.Fast.tw3596757227184734960:Nat:=0
def PySem.W.Fast.tw16016946929648109774:Nat:=0
def PySem.W.Fast.tw17857275190227667033:Nat:=0
def PySem.W.Fast.tw7762802398480638344:Nat:=0
def PySem.W.Fast.tw16256385689956976514:Nat:=0
def PySem.W.Fast.tw842194748132600250:Nat:=0
def PySem.W.Fast.tw16578358735388463715:Nat:=0
def PySem.W.Fast.tw5618811746991624258:Nat:=0
def PySem.W.Fast.tw16263555063038323996:Nat:=0
def PySem.W.Fast.tw1331806974928687043:Nat:=0
def PySem.W.Fast.tw2804134702396319988:Nat:=0
def PySem.W.Fast.tw17706711055375267488:Nat:=0
def PySem.W.Fast.tw8139934001002869256:Nat:=0
def PySem.W.Fast.tw14237995504955120771:Nat:=0
def PySem.W.Fast.tw11261582036618820890:Nat:=0
def PySem.W.Fast.tw6424369197514085325:Nat:=0
def PySem.W.Fast.tw1408773201309093427:Nat:=0
def PySem.W.Fast.tw9794772496933374003:Nat:=0
def PySem.W.Fast.tw7300996904298735163:Nat:=0
def PySem.W.Fast.tw5885933396428209727:Nat:=0
def PySem.W.Fast.tw11942525105863532608:Nat:=0
def PySem.W.Fast.tw18165478062972246948:Nat:=0
def PySem.W.Fast.tw14041364100814225884:Nat:=0
def PySem.W.Fast.tw1168963252970996371:Nat:=0
def PySem.W.Fast.tw4402408872736769591:Nat:=0
def PySem.W.Fast.tw5861152842401909614:Nat:=0
def PySem.W.Fast.tw15849123421853556739:Nat:=0
def PySem.W.Fast.tw7979077880273601938:Nat:=0
def PySem.W.Fast.tw16341855167169710338:Nat:=0
def PySem.W.Fast.tw10165285679877150991:Nat:=0
def PySem.W.Fast.tw17523882480599467837:Nat:=0
def PySem.W.Fast.tw4499446665009856107:Nat:=0
def PySem.W.Fast.tw974201319404246407:Nat:=0
def PySem.W.Fast.tw14224342720717380019:Nat:=0
def PySem.W.Fast.tw8629251226774502597:Nat:=0
def PySem.W.Fast.tw11866646642276089282:Nat:=0
def PySem.W.Fast.tw3086900117520179865:Nat:=0
def PySem.W.Fast.tw16364900433092593749:Nat:=0
def PySem.W.Fast.tw17481832057144163812:Nat:=0
def PySem.W.Fast.tw17600040040855847907:Nat:=0
def PySem.W.Fast.tw17825167361853327106:Nat:=0
def PySem.W.Fast.tw17174256985469134110:Nat:=0
def PySem.W.Fast.tw2376715572381083669:Nat:=0
def PySem.W.Fast.tw5656691240368159085:Nat:=0
def PySem.W.Fast.tw8279929539731331688:Nat:=0
def PySem.W.Fast.tw5383983285969104809:Nat:=0
def PySem.W.Fast.tw11488434407351330211:Nat:=0
def PySem.W.Fast.tw8559187194157964466:Nat:=0
def PySem.W.Fast.tw2905454454947416250:Nat:=0
def PySem.W.Fast.tw9658277788545523866:Nat:=0
def PySem.W.Fast.tw4706615975521030174:Nat:=0
def PySem.W.Fast.tw741451689652058079:Nat:=0
def PySem.W.Fast.tw8478261670893664203:Nat:=0
def PySem.W.Fast.tw5654389373692273450:Nat:=0
def PySem.W.Fast.tw14906923549155149931:Nat:=0
def PySem.W.Fast.tw5849097748842449796:Nat:=0
def PySem.W.Fast.tw363391878165001418:Nat:=0
def PySem.W.Fast.tw15812351349058908284:Nat:=0
def PySem.W.Fast.tw7629086461441408869:Nat:=0
def PySem.W.Fast.tw14518391159821169754:Nat:=0
def PySem.W.Fast.tw16378048269976512035:Nat:=0
def PySem.W.Fast.tw6885086157376694940:Nat:=0
def PySem.W.Fast.tw8349154251710707620:Nat:=0
def PySem.W.Fast.tw3829114208347641516:Nat:=0
def PySem.W.Fast.tw9220684243606306408:Nat:=0
def PySem.W.Fast.tw889672655188706606:Nat:=0
def PySem.W.Fast.tw7625835315572623199:Nat:=0
def PySem.W.Fast.tw9304169861580268238:Nat:=0
def PySem.W.Fast.tw10450547560604235897:Nat:=0
def PySem.W.Fast.tw12813832512674343541:Nat:=0
def PySem.W.Fast.tw852493464538405155:Nat:=0
def PySem.W.Fast.tw3960263539460167986:Nat:=0
def PySem.W.Fast.tw12751008374139858185:Nat:=0
def PySem.W.Fast.tw8396914516066256699:Nat:=0
set_option Elab.async false
set_option linter.all false
set_option maxRecDepth 100000
namespace L2
open PySem PySem.Spec PyProof.Rows
abbrev Key:=Sum Int Str
def oU:Key->Value->Bool
 | .inl k,v=>Value.isInt k v
 | .inr x,v=>Value.isStrOf x v
def aCE (w:World):Key->Int
 | .inl k=>hashInt k
 | .inr x=>hashStr w x
theorem bS:∀ {k:Key} {v:Value},oU k v=true->(∃ i t,k=Sum.inl i/\v=Value.int i t)∨(∃ x t,k=Sum.inr x/\v=Value.str x t)
 | .inl i,v,h=>by
  obtain ⟨t,e⟩:=Value.isInt_shape (k:=i) (v:=v) h
  exact .inl ⟨i,t,rfl,e⟩
 | .inr x,v,h=>by
  obtain ⟨t,e⟩:=Value.isStrOf_shape (x:=x) (v:=v) h
  exact .inr ⟨x,t,rfl,e⟩
theorem vV (i:Int) (t:Tok):oU (.inl i) (.int i t)=true:=by simp [oU,Value.isInt]
theorem vW (x:Str) (t:Tok):oU (.inr x) (.str x t)=true:=by simp [oU,Value.isStrOf]
theorem aBg (a b:Int):decide ((Sum.inl a:Key)=Sum.inl b)=(a==b):=by
 by_cases e:a=b
 ·subst e; simp
 ·have h:¬ (Sum.inl a:Key)=Sum.inl b:=fun q=>e (Sum.inl.inj q)
  rw [decide_eq_false h]
  exact (beq_eq_false_iff_ne.mpr e).symm
theorem aBh (a b:Str):decide ((Sum.inr a:Key)=Sum.inr b)=decide (a=b):=by
 by_cases e:a=b
 ·subst e; simp
 ·have h:¬ (Sum.inr a:Key)=Sum.inr b:=fun q=>e (Sum.inr.inj q)
  rw [decide_eq_false h,decide_eq_false e]
theorem aBi (a:Int) (b:Str):decide ((Sum.inl a:Key)=Sum.inr b)=false:=decide_eq_false (fun q=>nomatch q)
theorem aBj (a:Str) (b:Int):decide ((Sum.inr a:Key)=Sum.inl b)=false:=decide_eq_false (fun q=>nomatch q)
def aP (prog:Program) (w:World):PySem.KeyKind prog w Key where
 is:=oU
 hash:=aCE w
 inj:=fun v a b ha hb=>by
  rcases bS ha with ⟨i,t,rfl,rfl⟩ | ⟨x,t,rfl,rfl⟩
  ·rcases bS hb with ⟨j,u,rfl,e⟩ | ⟨y,u,rfl,e⟩
   ·injection e with e1 _; rw [e1]
   ·exact nomatch e
  ·rcases bS hb with ⟨j,u,rfl,e⟩ | ⟨y,u,rfl,e⟩
   ·exact nomatch e
   ·injection e with e1 _; rw [e1]
 byValue:=fun k v h=>by
  rcases bS h with ⟨i,t,rfl,rfl⟩ | ⟨x,t,rfl,rfl⟩ <;> rfl
 pyHash:=fun hv h=>by
  rcases bS hv with ⟨i,t,rfl,rfl⟩ | ⟨x,t,rfl,rfl⟩
  ·exact wpAny_pyHash_int h
  ·exact wpAny_pyHash_str h
 eqBool:=fun hu hv h=>by
  rcases bS hu with ⟨i,t,rfl,rfl⟩ | ⟨x,t,rfl,rfl⟩
  ·rcases bS hv with ⟨j,u,rfl,rfl⟩ | ⟨y,u,rfl,rfl⟩
   ·rw [aBg] at h; exact wpAny_eqBool_int h
   ·rw [aBi] at h; exact SeqAt.EqAt.int_str i t y u _ _ _ _ h
  ·rcases bS hv with ⟨j,u,rfl,rfl⟩ | ⟨y,u,rfl,rfl⟩
   ·rw [aBj] at h; exact SeqAt.EqAt.str_int x t j u _ _ _ _ h
   ·rw [aBh] at h; exact wpAny_eqBool_str h
 «strs»:=fun k x t v h=>by
  rcases bS h with ⟨i,u,rfl,e⟩ | ⟨y,u,rfl,e⟩
  ·exact nomatch e
  ·injection e with e1 _
   subst e1
   cases v <;> rfl
theorem rN (prog:Program) (w:World) (i:Int) (t:Tok):(aP prog w).is (.inl i) (.int i t)=true:=vV i t
theorem rO (prog:Program) (w:World) (x:Str) (t:Tok):(aP prog w).is (.inr x) (.str x t)=true:=vW x t
inductive V where
 | non | bl (b:Bool) | int (i:Int) | str (x:Str) | byt (b:Array UInt8) | flt (b:UInt64) | ref (a:Addr) | ty (n:String)
 deriving DecidableEq
def aQ:V->Value->Prop
 | .non,u=>u=Value.none
 | .bl b,u=>u=Value.bool b
 | .int i,u=>∃ t,u=Value.int i t
 | .str x,u=>∃ t,u=Value.str x t
 | .byt b,u=>∃ t,u=Value.bytes b t
 | .flt b,u=>∃ t,u=Value.float b t
 | .ref a,u=>u=Value.ref a
 | .ty n,u=>u=Value.type n
abbrev aO:List V->List Value->Prop:=Paired aQ
theorem aO.length {xs:List V} {us:List Value} (r:aO xs us):xs.length=us.length:=Paired.length r
theorem aO.get:∀ {xs:List V} {us:List Value} {i:Nat} {x:V},aO xs us->xs[i]?=some x->∃ u,us[i]?=some u/\aQ x u
 | _,_,_,_,.nil,e=>by simp at e
 | _,_,0,_,.cons r _,e=>by simp at e; subst e; exact ⟨_,rfl,r⟩
 | _,_,i+1,x,.cons _ t,e=>by
  obtain ⟨u,h1,h2⟩:=aO.get (i:=i) (x:=x) t (by simpa using e)
  exact ⟨u,by simpa using h1,h2⟩
theorem aO.set {x:V} {u:Value} (r:aQ x u):∀ {xs:List V} {us:List Value} (i:Nat),aO xs us->aO (xs.set i x) (us.set i u)
 | _,_,_,.nil=>.nil
 | _,_,0,.cons _ t=>.cons r t
 | _,_,i+1,.cons q t=>.cons q (aO.set r i t)
theorem aO.append:∀ {xs ys:List V} {us ws:List Value},aO xs us->aO ys ws->aO (xs++ys) (us++ws)
 := by
 intro xs ys us ws h s
 induction h with
 | nil=>exact s
 | cons r t ih=>exact .cons r ih
theorem aO.take:∀ {xs:List V} {us:List Value} (n:Nat),aO xs us->aO (xs.take n) (us.take n)
 | _,_,0,_=>.nil
 | _,_,_+1,.nil=>.nil
 | _,_,n+1,.cons r t=>.cons r (aO.take n t)
theorem aO.drop:∀ {xs:List V} {us:List Value} (n:Nat),aO xs us->aO (xs.drop n) (us.drop n)
 | _,_,0,r=>r
 | _,_,_+1,.nil=>.nil
 | _,_,n+1,.cons _ t=>aO.drop n t
theorem aO.none_of:∀ {xs:List V} {us:List Value} {i:Nat},aO xs us->xs[i]?=none->us[i]?=none:=fun {xs us i} r e=>by
 have h1:=r.length
 have h2:xs.length<=i:=Qx.mp e
 exact Qx.mpr (by omega)
def fZ:Option V->Option Value->Prop
 | some v,some u=>aQ v u
 | none,none=>True
 | _,_=>False
def KV {κ:Type}:List (κ×V)->List (κ×Value)->Prop:=Paired fun (p:κ×V) (q:κ×Value)=>p.1=q.1/\aQ p.2 q.2
def kV:Key->V
 | .inl i=>.int i
 | .inr x=>.str x
inductive HO where
 /-- a list -/
 | lst (xs:List V)
 /-- a tuple (never changes) -/
 | tup (xs:List V)
 /-- a dict whose keys are ints and texts; one whose keys are tuples of ints and texts (the empty one is both) -/
 | dK (kvs:List (Key×V)) | dT (kvs:List (List Key×V))
 /-- a set of ints: its members,its size -/
 | set (S:Int->Bool) (n:Nat)
 /-- an instance of the class at C,its dict at dx,its attributes -/
 | ins (C dx:Addr) (fs:List (Str×V))
 /-- the dict of the instance at x -/
 | own (x:Addr)
 /-- the dict of an exception -/
 | xd (fs:List (Str×V))
 /-- a bound method,f of x -/
 | met (f x:Addr)
 /-- a range object lo,lo+1,.. below hi -/
 | rng (lo hi:Int)
 /-- a thing that is known to the object (the script; a dict while a loop walks it): read,never written while it is so -/
 | frz (o:Obj) (u:HO)
 /-- a code object's table -/
 | tbl (ps:Array Value)
 /-- a code object's table,all of whose codes have the name q; they are tracked as its own -/
 | tab (q:Str)
 /-- any other thing,by what is true of its one object (a def of one's own: aC0 a S n:=HO.ext fun h=>..) -/
 | ext (φ:Heap->Prop)
abbrev Hp:=Addr->Option HO
def upd (H:Hp) (a:Addr) (o:HO):Hp:=fun b=>if b=a then some o else H b
theorem aA {H:Hp} {a:Addr} {o:HO}:upd H a o a=some o:=by unfold upd; rw [if_pos rfl]
theorem aD {H:Hp} {a b:Addr} {o:HO} (h:b≠a):upd H a o b=H b:=by unfold upd; rw [if_neg h]
theorem gA {H:Hp} {a:Addr} {o u:HO}:upd (upd H a o) a u=upd H a u:=by
 funext b; unfold upd; split <;> rfl
theorem aBY {H:Hp} {a b:Addr} {o u:HO} (h:H a=some o) (h':H b=some u) (d:o≠u):a≠b:=by
 intro e; subst e; rw [h] at h'; exact d (Option.some.inj h')
theorem dO {H:Hp} {a b:Addr} {o:HO} (h:H a=some o) (h':H b=none):a≠b:=by
 intro e; subst e; rw [h] at h'; cases h'
section
variable (P:Program) (w:World)
def bB (H:Hp) (h:Heap) (a:Addr):HO->Prop
 | .lst xs=>xs.length<=sizeLine/\∃ (its:List Value) (n:Nat),aO xs its/\h.get? a=some { cls:=.type "list",data:=.seq its.toArray n }
 | .tup xs=>xs.length<=sizeLine/\∃ (its:List Value) (n:Nat),aO xs its/\h.get? a=some { cls:=.type "tuple",data:=.seq its.toArray n }
 | .dK kvs=>kvs.length<=sizeLine/\(a==sysModules)=false/\∃ vs,KV kvs vs/\h.DictOf (aP P w) a vs
 | .dT kvs => kvs.length <= sizeLine /\ (a == sysModules) = false /\ ∃ xs : List (List Key × Addr × Value),
     Paired (fun (p:List Key×V) (q:List Key×Addr×Value)=>p.1=q.1/\H q.2.1=some (.tup (p.1.map kV))/\aQ p.2 q.2.2) kvs xs /\
     ∃ o es ep,h.get? a=some o/\o.ExactDict/\o.data=.dict es ep/\es.toList=xs.map (entryOfKey (tupleKind (aP P w)))/\(xs.map (·.1)).Nodup
 | .set S n=>h.SetOf (intKind P w) a S n
 | .ins C dx fs => H dx = some (.own a) /\ fs.length <= 1000 /\ dx ≠ a /\ h.get? a = some (PySem.W.instObj C dx) /\
     ∃ mA,h.Ns1 dx mA/\(∀ f,fZ (fs.lookup f) (mA f))/\PySem.Within mA (fs.map (·.1))
 | .own _=>∃ o,h.get? a=some o
 | .xd fs=>∃ mA,h.Ns1 a mA/\∀ f,fZ (fs.lookup f) (mA f)
 | .rng lo hi=>∃ t u v,h.get? a=some { cls:=.type "range",data:=.fields #[.int lo t,.int hi u,.int 1 v] }
 | .frz o u=>h.get? a=some o/\bB H h a u
 | .tbl ps=>h.get? a=some { cls:=.none,data:=.fields ps }
 | .tab q=>∃ ps:Array Value,h.get? a=some { cls:=.none,data:=.fields ps }/\TriplesOk ps.toList/\∀ (pos:Pos) (cv:Value),codeAmong pos ps.toList=some cv->∃ (c:Addr) (o:Obj) (vs:Array Value) (t:Tok),cv=.ref c/\H c=some (.own a)/\h.get? c=some o/\o.data=.fields vs/\vs[1]?=some (.str q t)
 | .met f x=>h.get? a=some (PySem.W.methodObj (.ref f) (.ref x))
 | .ext φ=>φ h/\(∃ o,h.get? a=some o)/\∀ h1 h2:Heap,φ h1->(∀ o,h1.get? a=some o->h2.get? a=some o)->φ h2
def HOk (H:Hp) (h:Heap):Prop:=∀ a o,H a=some o->bB P w H h a o
end
section
variable {P:Program} {w:World} {H H':Hp} {h h':Heap} {a:Addr} {o:HO}
theorem bB.lt (x:bB P w H h a o):a < h.objs.size:=by
 cases o with
 | lst xs=>obtain ⟨_,_,_,_,e⟩:=x; exact Qk e
 | tup xs=>obtain ⟨_,_,_,_,e⟩:=x; exact Qk e
 | dK kvs=>obtain ⟨_,_,_,_,o,_,_,e,_⟩:=x; exact Qk e
 | dT kvs=>obtain ⟨_,_,_,_,o,_,_,e,_⟩:=x; exact Qk e
 | set S n=>obtain ⟨o,_,_,_,e,_⟩:=x; exact Qk e
 | ins C dx fs=>obtain ⟨_,_,_,e,_⟩:=x; exact Qk e
 | own y=>obtain ⟨_,e⟩:=x; exact Qk e
 | xd fs=>obtain ⟨_,⟨_,_,_,e,_⟩,_⟩:=x; exact Qk e
 | rng lo hi=>obtain ⟨_,_,_,e⟩:=x; exact Qk e
 | frz ob u=>obtain ⟨e,_⟩:=x; exact Qk e
 | tbl ps=>exact Qk (show h.get? a=some _ from x)
 | tab q=>obtain ⟨_,e,_⟩:=x; exact Qk e
 | met f y=>exact Qk (show h.get? a=some _ from x)
 | ext φ=>obtain ⟨_,⟨_,e⟩,_⟩:=x; exact Qk e
theorem Paired.mapP {α β:Type} {F G:α->β->Prop}:∀ {l₁:List α} {l₂:List β},Paired F l₁ l₂->(∀ a b,F a b->G a b)->Paired G l₁ l₂
 := by
 intro l₁ l₂ h f
 induction h with
 | nil=>exact .nil
 | cons r t ih=>exact .cons (f _ _ r) ih
theorem bB.stay (x:bB P w H h a o) (k:∀ b u,(b=a∨H b=some (.own a))->h.get? b=some u->h'.get? b=some u)
  (ho:∀ b,H b=some (.own a)->H' b=some (.own a)) (ht:∀ b xs,H b=some (.tup xs)->H' b=some (.tup xs)):bB P w H' h' a o:=by
 induction o with
 | lst xs=>obtain ⟨z,its,n,r,e⟩:=x; exact ⟨z,its,n,r,k _ _ (.inl rfl) e⟩
 | tup xs=>obtain ⟨z,its,n,r,e⟩:=x; exact ⟨z,its,n,r,k _ _ (.inl rfl) e⟩
 | dK kvs=>obtain ⟨z,y,vs,r,ob,es,ep,e,c⟩:=x; exact ⟨z,y,vs,r,ob,es,ep,k _ _ (.inl rfl) e,c⟩
 | dT kvs =>
  obtain ⟨z,y,xs,r,ob,es,ep,e,c⟩:=x
  exact ⟨z,y,xs,Paired.mapP r fun p q z=>⟨z.1,ht _ _ z.2.1,z.2.2⟩,ob,es,ep,k _ _ (.inl rfl) e,c⟩
 | set S n=>obtain ⟨ob,es,ep,t,e,c⟩:=x; exact ⟨ob,es,ep,t,k _ _ (.inl rfl) e,c⟩
 | ins C dx fs =>
  obtain ⟨d,z,ne,e,mA,⟨od,es,ep,e2,c⟩,r⟩:=x
  exact ⟨ho _ d,z,ne,k _ _ (.inl rfl) e,mA,⟨od,es,ep,k _ _ (.inr d) e2,c⟩,r⟩
 | own y=>obtain ⟨ob,e⟩:=x; exact ⟨ob,k _ _ (.inl rfl) e⟩
 | xd fs=>obtain ⟨mA,⟨od,es,ep,e,c⟩,r⟩:=x; exact ⟨mA,⟨od,es,ep,k _ _ (.inl rfl) e,c⟩,r⟩
 | rng lo hi=>obtain ⟨t,u,v,e⟩:=x; exact ⟨t,u,v,k _ _ (.inl rfl) e⟩
 | frz ob u ih=>obtain ⟨e,q⟩:=x; exact ⟨k _ _ (.inl rfl) e,ih q⟩
 | tbl ps =>
  have e:h.get? a=some { cls:=.none,data:=.fields ps }:=x
  show h'.get? a=some { cls:=.none,data:=.fields ps }
  exact k a _ (.inl rfl) e
 | tab q =>
  obtain ⟨ps,e,z,r⟩:=x
  refine ⟨ps,k _ _ (.inl rfl) e,z,fun pos cv q=>?_⟩
  obtain ⟨c,o,vs,t,r1,r2,r3,r4⟩:=r pos cv q
  exact ⟨c,o,vs,t,r1,ho _ r2,k _ _ (.inr r2) r3,r4⟩
 | met f y =>
  have e:h.get? a=some (PySem.W.methodObj (.ref f) (.ref y)):=x
  show h'.get? a=some (PySem.W.methodObj (.ref f) (.ref y))
  exact k a _ (.inl rfl) e
 | ext φ=>obtain ⟨p,⟨o,e⟩,st⟩:=x; exact ⟨st _ _ p fun o q=>k _ _ (.inl rfl) q,⟨o,k _ _ (.inl rfl) e⟩,st⟩
theorem HOk.lt (x:HOk P w H h) (e:H a=some o):a < h.objs.size:=(x a o e).lt
theorem HOk.fresh (x:HOk P w H h) (e:h.objs.size<=a):H a=none:=by
 cases q:H a with
 | none=>rfl
 | some u=>exact absurd (Qo (x.lt q) e) (Jn _)
theorem HOk.kept (x:HOk P w H h) (k:∀ b u,h.get? b=some u->h'.get? b=some u):HOk P w H h':=fun a o e =>
 (x a o e).stay (fun b u _ q=>k b u q) (fun _ q=>q) fun _ _ q=>q
theorem HOk.laid (x:HOk P w H h) (k:∀ b u,h.get? b=some u->h'.get? b=some u) (hp:h.objs.size<=a) (new:bB P w (upd H a o) h' a o):HOk P w (upd H a o) h':=fun b u e=>by
 have hn:=x.fresh hp
 by_cases hb:b=a
 ·subst hb; rw [aA] at e; cases e; exact new
 ·rw [aD hb] at e
  exact (x b u e).stay (fun c v _ q=>k c v q) (fun c q=>by rw [aD (dO q hn)]; exact q) fun c xs q=>by rw [aD (dO q hn)]; exact q
end
def Rd (H:Hp) (a:Addr) (u:HO):Prop:=H a=some u∨∃ o,H a=some (.frz o u)
theorem Rd.of {H:Hp} {a:Addr} {u:HO} (h:H a=some u):Rd H a u:=.inl h
theorem Rd.ok {P:Program} {w:World} {H:Hp} {h:Heap} {a:Addr} {u:HO} (r:Rd H a u) (x:HOk P w H h):bB P w H h a u:=by
 rcases r with r | ⟨o,r⟩
 ·exact x a u r
 ·obtain ⟨_,q⟩:=x a _ r
  exact q
def Mut:Option HO->Prop
 | some (.lst _)=>True
 | some (.dK _)=>True
 | some (.dT _)=>True
 | some (.set _ _)=>True
 | some (.ins _ _ _)=>True
 | some (.ext _)=>True
 | some (.tab _)=>True
 | _=>False
section
variable {P:Program} {w:World} {H:Hp} {h h':Heap} {x e:Addr} {o':HO}
theorem HOk.write (ok:HOk P w H h) (mu:Mut (H x)) (he:e=x∨H e=some (.own x)) (k:∀ b u,b≠e->h.get? b=some u->h'.get? b=some u) (heo:∃ u,h'.get? e=some u)
  (new:bB P w (upd H x o') h' x o'):HOk P w (upd H x o') h':=fun b u q=>by
 have nown:∀ c y,H c=some (.own y)->c≠x:=fun c y r z=>by subst z; rw [r] at mu; exact mu
 have ntup:∀ c xs,H c=some (.tup xs)->c≠x:=fun c xs r z=>by subst z; rw [r] at mu; exact mu
 by_cases hb:b=x
 ·subst hb; rw [aA] at q; cases q; exact new
 ·rw [aD hb] at q
  by_cases hbe:b=e
  ·have q':H b=some (.own x):=by
    rcases he with z | z
    ·exact absurd (hbe.trans z) hb
    ·rw [hbe]; exact z
   rw [q] at q'; cases q'
   obtain ⟨v,hv⟩:=heo
   exact ⟨v,by rw [hbe]; exact hv⟩
  ·refine (ok b u q).stay (fun c v hc r=>k c v ?_ r) (fun c r=>by rw [aD (nown c b r)]; exact r) fun c xs r=>by rw [aD (ntup c xs r)]; exact r
   rcases hc with rfl | hc
   ·exact hbe
   ·rintro rfl
    rcases he with z | z
    ·exact nown c b hc z
    ·rw [hc] at z; cases z; exact hb rfl
end
structure Un (fs ex:List Addr) (H H':Hp) (h h':Heap):Prop where
 keep:∀ b o,h.get? b=some o->H b=none->b∉fs->b∉ex->h'.get? b=some o
 slot:∀ b o,h.get? b=some o->H b=none->b∈fs->b∉ex->∃ sl,h'.get? b=some { o with slots:=sl }
 free:∀ b o,h.get? b=some o->H b=none->b∉ex->H' b=none
 there:∀ b o,h.get? b=some o->b∉ex->∃ o',h'.get? b=some o'
 tups:∀ b xs,H b=some (.tup xs)->H' b=some (.tup xs)
 frzs:∀ b o u,H b=some (.frz o u)->H' b=some (.frz o u)
 tbls:∀ b ps,H b=some (.tbl ps)->∃ more,H' b=some (.tbl (ps++more))
section
variable {fs fs' ex ex':List Addr} {H H1 H2:Hp} {h h1 h2 h':Heap} {a x e:Addr} {o:HO}
theorem Un.any (u:Un fs ex H H1 h h1) {b:Addr} {ob:Obj} (q:h.get? b=some ob) (n:H b=none) (hx:b∉ex):∃ sl,h1.get? b=some { ob with slots:=sl }:=by
 by_cases hb:b∈fs
 ·exact u.slot b ob q n hb hx
 ·exact ⟨ob.slots,u.keep b ob q n hb hx⟩
theorem Un.trans (a:Un fs ex H H1 h h1) (b:Un fs ex H1 H2 h1 h2):Un fs ex H H2 h h2 where
 keep:=fun c ob q n hc hx=>b.keep c ob (a.keep c ob q n hc hx) (a.free c ob q n hx) hc hx
 slot:=fun c ob q n hc hx=>by
  obtain ⟨sl,e1⟩:=a.slot c ob q n hc hx
  obtain ⟨sl',e2⟩:=b.slot c _ e1 (a.free c ob q n hx) hc hx
  exact ⟨sl',e2⟩
 free:=fun c ob q n hx=>by
  obtain ⟨o',e1⟩:=a.there c ob q hx
  exact b.free c o' e1 (a.free c ob q n hx) hx
 there:=fun c ob q hx=>by
  obtain ⟨o',e1⟩:=a.there c ob q hx
  exact b.there c o' e1 hx
 tups:=fun c xs q=>b.tups c xs (a.tups c xs q)
 frzs:=fun c ob xs q=>b.frzs c ob xs (a.frzs c ob xs q)
 tbls:=fun c ps q=>by
  obtain ⟨m1,e1⟩:=a.tbls c ps q
  obtain ⟨m2,e2⟩:=b.tbls c _ e1
  exact ⟨m1++m2,by rw [e2,Array.append_assoc]⟩
theorem Un.kept (k:∀ b u,h.get? b=some u->h'.get? b=some u):Un fs ex H H h h' :=
 ⟨fun b ob q _ _ _=>k b ob q,fun b ob q _ _ _=>⟨ob.slots,k b ob q⟩,fun _ _ _ n _=>n,fun b ob q _=>⟨ob,k b ob q⟩,fun _ _ q=>q,fun _ _ _ q=>q,fun _ ps q=>⟨#[],by rw [q]; simp⟩⟩
theorem Un.refl:Un fs ex H H h h:=Un.kept fun _ _ q=>q
theorem Un.laid (k:∀ b u,h.get? b=some u->h'.get? b=some u) (hp:h.objs.size<=a) (hn:H a=none):Un fs ex H (upd H a o) h h' where
 keep:=fun b u q _ _ _=>k b u q
 slot:=fun b u q _ _ _=>⟨u.slots,k b u q⟩
 free:=fun b u q n _=>by rw [aD (Jd (Qo (Qk q) hp))]; exact n
 there:=fun b u q _=>⟨u,k b u q⟩
 tups:=fun b xs q=>by rw [aD (dO q hn)]; exact q
 frzs:=fun b u xs q=>by rw [aD (dO q hn)]; exact q
 tbls:=fun b ps q=>⟨#[],by rw [aD (dO q hn),q]; simp⟩
theorem Un.write (mu:Mut (H x)) (he:e=x∨H e=some (.own x)) (k:∀ b u,b≠e->h.get? b=some u->h'.get? b=some u) (heo:∃ u,h'.get? e=some u):Un fs ex H (upd H x o) h h':=by
 have hx:∀ b,H b=none->b≠x:=fun b n z=>by subst z; rw [n] at mu; exact mu
 have hb:∀ b,H b=none->b≠e:=fun b n z=>by
  subst z
  rcases he with r | r
  ·exact hx b n r
  ·rw [n] at r; cases r
 have hm:∀ b u,H b=some u->¬ Mut (some u)->b≠x:=fun b u q nm z=>by subst z; rw [q] at mu; exact nm mu
 refine ⟨fun b u q n _ _=>k b u (hb b n) q,fun b u q n _ _=>⟨u.slots,k b u (hb b n) q⟩,fun b u q n _=>by rw [aD (hx b n)]; exact n,fun b u q _=>?_,
  fun b xs q=>by rw [aD (hm b _ q fun z=>z)]; exact q,fun b u xs q=>by rw [aD (hm b _ q fun z=>z)]; exact q,fun b ps q=>⟨#[],by rw [aD (hm b _ q fun z=>z),q]; simp⟩⟩
 by_cases hbe:b=e
 ·subst hbe; exact heo
 ·exact ⟨u,k b u hbe q⟩
theorem Un.mono (u:Un fs ex H H1 h h1) (hs:∀ b∈fs,b∈fs') (hx:∀ b∈ex,b∈ex'):Un fs' ex' H H1 h h1 :=
 ⟨fun b ob q n hb he=>u.keep b ob q n (fun z=>hb (hs b z)) fun z=>he (hx b z),fun _ _ q n _ he=>u.any q n fun z=>he (hx _ z),fun b ob q n he=>u.free b ob q n fun z=>he (hx b z),fun b ob q he=>u.there b ob q fun z=>he (hx b z),u.tups,u.frzs,u.tbls⟩
end
def trk (h:Heap) (H:Hp):List Addr:=(List.range h.objs.size).filter fun a=>(H a).isSome
def oK (h:Heap) (H:Hp):Heap:=PySem.W.hideAll h (trk h H)
theorem vY (h:Heap) (H:Hp):(oK h H).objs.size=h.objs.size:=PySem.W.hideAll_size _ _
theorem xI {h:Heap} {H:Hp} {b:Addr} {o:Obj} (e:h.get? b=some o) (n:H b=none):(oK h H).get? b=some o :=
 PySem.W.hideAll_get _ e fun hm=>by
  have q:(H b).isSome=true:=(Xw.mp hm).2
  rw [n] at q; simp at q
theorem aAh {h:Heap} {H:Hp} {b:Addr} {o:Obj} (e:(oK h H).get? b=some o):h.get? b=some o/\H b=none:=by
 have e':h.get? b=some o:=PySem.W.of_hideAll (trk h H) e
 refine ⟨e',?_⟩
 cases q:H b with
 | none=>rfl
 | some x =>
  have hm:b∈trk h H:=Xw.mpr ⟨Zu.mpr (Qk e'),by simp [q]⟩
  have z:(oK h H).get? b=none:=PySem.W.hideAll_none (trk h H) hm
  rw [z] at e; cases e
def aAi (g h:Heap) (L:Addr):List (Addr×Obj):=(List.range h.objs.size).filterMap fun a=>if a=L∨(g.get? a).isSome=true then none else (h.get? a).map fun o=>(a,o)
def gL (g h:Heap) (L d:Addr):List (Addr×Obj):=(aAi g h L).filter fun p=>decide (p.1≠d)
structure Mod (K:PySem.W.Frag) (mg:Str->Option Value) (base:Heap):Prop where
 kin:K.In base
 glob:base.Ns mainGlobals mg
 blt:∃ mb,base.Ns builtinsNs mb/\∀ x:Str,x ≠ "__name__" -> mb x=bootBuiltins x
 nolimit:base.NoLimit
 mods:∃ mm,base.Ns sysModules mm
structure Cx where
 prog:Program
 w:World
 K:PySem.W.Frag
 mg:Str->Option Value
 base:Heap
 A:Around
 N:List Str
 s₀:Shared
 H₀:Hp
 env:Env
 outer:List Env
 stack:List Env
 ex:List Addr
 fn:Str->Bool
 calm:Bool
 pn:List (Addr×Obj)
 xe:Value->Shared->Prop
def frs (l:List Env):List Addr:=l.filterMap (·.frame)
abbrev Cx.fs (X:Cx):List Addr:=frs X.outer
def Vis (sc:Scope) (x:Str):Prop:=sc.names.lookup x=some .local∨sc.names.lookup x=some .cell∨sc.names.lookup x=some .free
def Loc (sc:Scope) (x:Str):Prop:=sc.names.lookup x=some .local∨sc.names.lookup x=some .cell
def aBZ (env:Env) (h:Heap) (m:Str->Option Value) (x:Str) (u:Value):Prop :=
 (env.kindOf x=some .local/\m x=some u)∨((env.kindOf x=some .cell∨env.kindOf x=some .free)/\∃ c,env.cells.lookup x=some c/\h.IsCell c (some u))
structure Cx.Ok (X:Cx):Prop where
 mod:Mod X.K X.mg X.base
 kind:X.env.scope.kind=.function
 glob:X.env.globals=mainGlobals
 blt:X.env.builtins=builtinsNs
 above:X.s₀.heap.objs.size<=X.env.locals
 inj:∀ x y c,X.env.cells.lookup x=some c->X.env.cells.lookup y=some c->x=y
 has:∀ x,(X.env.kindOf x=some .cell∨X.env.kindOf x=some .free)->∃ c,X.env.cells.lookup x=some c
 cab:∀ x c,X.fn x=true->X.env.cells.lookup x=some c->X.s₀.heap.objs.size<=c
 hd:X.calm=true->X.A.handled=none
 frames:X.A.frames=some X.stack
 stk:X.stack=X.outer∨(X.stack=X.env::X.outer/\X.env.frame=some X.env.locals)
 exf:∀ b∈X.ex,b≠X.env.locals/\∀ x c,X.env.cells.lookup x=some c->c≠b
 bs:∀ b o,X.base.get? b=some o->X.s₀.heap.get? b=some o/\X.H₀ b=none
 bsz:X.base.objs.size<=X.s₀.heap.objs.size
 noex:∀ b o,X.base.get? b=some o->b∉X.ex
 exfs:∀ b∈X.ex,b∉X.fs
 funs:X.s₀.heap.FunFrames X.base X.outer
 frf:∀ b∈X.fs,X.H₀ b=none
structure Inv (X:Cx) (pins:List (Addr×Obj)) (σ:List (Option V)) (H:Hp) (s:Shared):Prop where
 ok:X.Ok
 os:s.os=X.s₀.os
 bare:AllBare s.gens
 base:Un X.fs X.ex X.H₀ H X.s₀.heap s.heap
 loc:∃ m,s.heap.Ns X.env.locals m/\∀ (i:Nat) (x:Str) (v:V),X.N[i]?=some x->σ[i]?=some (some v)->Vis X.env.scope x->∃ u,aQ v u/\aBZ X.env s.heap m x u
 cell:∀ x c,X.env.cells.lookup x=some c->∃ v,s.heap.IsCell c v
 free:H X.env.locals=none
 freeC:∀ x c,X.env.cells.lookup x=some c->H c=none
 pin:∀ p∈X.pn++pins,s.heap.get? p.1=some p.2/\H p.1=none/\p.1≠X.env.locals/\p.1∉X.fs/\∀ v,p.2.data≠.cell v
 hok:HOk X.prog X.w H s.heap
 len:σ.length=X.N.length
section
variable {X:Cx} {pins:List (Addr×Obj)} {σ:List (Option V)} {H H':Hp} {s:Shared} {h':Heap}
theorem Cx.Ok.nofr (ok:X.Ok) {b:Addr} {o:Obj} (e:X.base.get? b=some o):b∉X.fs:=fun hb=>by
 have:=(ok.funs.mem hb).1
 rw [e] at this; cases this
theorem Inv.bs (I:Inv X pins σ H s):∀ b o,X.base.get? b=some o->s.heap.get? b=some o/\H b=none:=fun b o e =>
 ⟨I.base.keep b o (I.ok.bs b o e).1 (I.ok.bs b o e).2 (I.ok.nofr e) (I.ok.noex b o e),I.base.free b o (I.ok.bs b o e).1 (I.ok.bs b o e).2 (I.ok.noex b o e)⟩
theorem Inv.bk (I:Inv X pins σ H s):∀ b o,X.base.get? b=some o->s.heap.get? b=some o:=fun b o e=>(I.bs b o e).1
theorem Inv.mod (I:Inv X pins σ H s):Mod X.K X.mg X.base:=I.ok.mod
theorem Inv.kIn (I:Inv X pins σ H s):X.K.In s.heap:=I.ok.mod.kin.keeps I.bk
theorem Inv.nolimit (I:Inv X pins σ H s):s.heap.NoLimit:=I.ok.mod.nolimit.keeps I.bk
theorem Inv.fr (I:Inv X pins σ H s):∃ m,Fr X.base X.env.locals s.heap m :=
 let ⟨m,hn,_⟩:=I.loc
 ⟨m,hn,I.bk,Ja I.ok.bsz I.ok.above⟩
theorem Inv.lt (I:Inv X pins σ H s):X.env.locals < s.heap.objs.size:=let ⟨_,hn,_⟩:=I.loc; hn.lt
theorem Inv.sz (I:Inv X pins σ H s):X.s₀.heap.objs.size<=s.heap.objs.size:=Ja I.ok.above (Zc I.lt)
theorem Inv.nofs (I:Inv X pins σ H s) {a:Addr} (h:s.heap.objs.size<=a):a∉X.fs:=fun hb=>by
 obtain ⟨_,o,ho,_⟩:=I.ok.funs.mem hb
 exact absurd (Qo (Qk ho) (Ja I.sz h)) (Jn _)
theorem Inv.cne (I:Inv X pins σ H s):∀ x c,X.env.cells.lookup x=some c->c≠X.env.locals:=fun x c e z=>by
 obtain ⟨v,o,ho,hd⟩:=I.cell x c e
 obtain ⟨m,⟨o',es,ep,ho',hd',_⟩,_⟩:=I.loc
 rw [z,ho'] at ho; cases ho; rw [hd'] at hd; cases hd
theorem Inv.funs (I:Inv X pins σ H s):s.heap.FunFrames X.base X.outer:=by
 have all:∀ (l:List Env),(∀ b∈frs l,b∈X.fs)->X.s₀.heap.FunFrames X.base l->s.heap.FunFrames X.base l:=by
  intro l
  induction l with
  | nil=>intro _ _; trivial
  | cons env r ih =>
   intro hs hl
   obtain ⟨hk,⟨L,o,hf,hn,ho,hd⟩,hr⟩:=hl
   have hL:L∈X.fs:=hs L (by unfold frs; rw [Ze,hf]; exact Qr)
   obtain ⟨sl,e⟩:=I.base.slot L o ho (I.ok.frf L hL) hL fun z=>I.ok.exfs L z hL
   exact ⟨hk,⟨L,_,hf,hn,e,hd⟩,ih (fun b hb=>hs b (by unfold frs; rw [Ze,hf]; exact Qq _ hb)) hr⟩
 exact all X.outer (fun _ hb=>hb) I.ok.funs
theorem Inv.stack (I:Inv X pins σ H s):s.heap.FunFrames X.base X.stack:=by
 rcases I.ok.stk with e | ⟨e,hf⟩
 ·rw [e]; exact I.funs
 ·rw [e]
  obtain ⟨m,hn,_⟩:=I.loc
  refine .cons (by rw [I.ok.kind]; decide) hf hn ?_ I.funs
  exact Heap.get?_none_of_le (Ja I.ok.bsz I.ok.above)
theorem Inv.stkSub (I:Inv X pins σ H s):∀ b∈frs X.stack,b∈X.env.locals::X.fs:=fun b hb=>by
 rcases I.ok.stk with e | ⟨e,hf⟩
 ·rw [e] at hb; exact Qq _ hb
 ·rw [e] at hb
  unfold frs at hb
  rw [Ze,hf] at hb
  exact hb
theorem Inv.stkFree (I:Inv X pins σ H s):∀ b∈frs X.stack,H b=none:=fun b hb=>by
 rcases Qs.mp (I.stkSub b hb) with e | hb
 ·rw [e]; exact I.free
 ·obtain ⟨_,o,ho,_⟩:=I.ok.funs.mem hb
  exact I.base.free b o ho (I.ok.frf b hb) fun z=>I.ok.exfs b z hb
theorem Inv.step {g':Array GenState} {t':Nat} {d':Drawn} {ch:List Addr} (I:Inv X pins σ H s)
  (hch:∀ b∈ch,(b∈X.ex∨X.s₀.heap.objs.size<=b)/\b≠X.env.locals/\(∀ x c,X.env.cells.lookup x=some c->c≠b)/\∀ p∈X.pn++pins,p.1≠b)
  (keep:∀ b o,b≠X.env.locals->b∉X.fs->b∉ch->s.heap.get? b=some o->H b=none->h'.get? b=some o)
  (slot:∀ b o,b≠X.env.locals->b∈X.fs->b∉ch->s.heap.get? b=some o->H b=none->∃ sl,h'.get? b=some { o with slots:=sl }) (free:∀ b o,b∉ch->s.heap.get? b=some o->H b=none->H' b=none)
  (there:∀ b o,b∉ch->s.heap.get? b=some o->∃ o',h'.get? b=some o')
  (tups:∀ b xs,H b=some (.tup xs)->H' b=some (.tup xs)) (frzs:∀ b o u,H b=some (.frz o u)->H' b=some (.frz o u)) (tbls:∀ b ps,H b=some (.tbl ps)->∃ more,H' b=some (.tbl (ps++more)))
  (ns:∀ m,s.heap.Ns X.env.locals m->h'.Ns X.env.locals m) (hok:HOk X.prog X.w H' h') (hg:AllBare g') :
  Inv X pins σ H' { s with heap:=h',gens:=g',drawn:=d',toks:=t' }:=by
 have neL:∀ b o,X.s₀.heap.get? b=some o->b≠X.env.locals:=fun b o e=>Jd (Qo (Qk e) I.ok.above)
 have neC:∀ b o,X.s₀.heap.get? b=some o->b∉X.ex->b∉ch:=fun b o e hx hb=>by
  rcases (hch b hb).1 with z | z
  ·exact hx z
  ·exact absurd (Qo (Qk e) z) (Jn _)
 have cellK:∀ x c,X.env.cells.lookup x=some c->∀ v,s.heap.IsCell c v->h'.IsCell c v:=fun x c e v ⟨o,ho,hd⟩=>by
  have nch:c∉ch:=fun z=>(hch c z).2.2.1 x c e rfl
  by_cases hc:c∈X.fs
  ·obtain ⟨sl,q⟩:=slot c o (I.cne x c e) hc nch ho (I.freeC x c e)
   exact ⟨_,q,hd⟩
  ·exact ⟨o,keep c o (I.cne x c e) hc nch ho (I.freeC x c e),hd⟩
 refine ⟨I.ok,I.os,hg,⟨fun b o e n hb hx=>?_,fun b o e n hb hx=>?_,fun b o e n hx=>?_,fun b o e hx=>?_,fun b xs e=>tups b xs (I.base.tups b xs e),fun b o xs e=>frzs b o xs (I.base.frzs b o xs e),fun b ps e=>?_⟩,?_,fun x c e=>?_,?_,fun x c e=>?_,fun p hp=>?_,hok,I.len⟩
 ·exact keep b o (neL b o e) hb (neC b o e hx) (I.base.keep b o e n hb hx) (I.base.free b o e n hx)
 ·obtain ⟨sl,e1⟩:=I.base.slot b o e n hb hx
  obtain ⟨sl',e2⟩:=slot b _ (neL b o e) hb (neC b o e hx) e1 (I.base.free b o e n hx)
  exact ⟨sl',e2⟩
 ·obtain ⟨o',e1⟩:=I.base.there b o e hx
  exact free b o' (neC b o e hx) e1 (I.base.free b o e n hx)
 ·obtain ⟨o',e1⟩:=I.base.there b o e hx
  exact there b o' (neC b o e hx) e1
 ·obtain ⟨m1,e1⟩:=I.base.tbls b ps e
  obtain ⟨m2,e2⟩:=tbls b _ e1
  exact ⟨m1++m2,by rw [e2,Array.append_assoc]⟩
 ·obtain ⟨m,hn,hl⟩:=I.loc
  refine ⟨m,ns m hn,fun i x v e1 e2 e3=>?_⟩
  obtain ⟨u,r,l⟩:=hl i x v e1 e2 e3
  refine ⟨u,r,?_⟩
  rcases l with l | ⟨k,c,e,z⟩
  ·exact .inl l
  ·exact .inr ⟨k,c,e,cellK x c e _ z⟩
 ·obtain ⟨v,z⟩:=I.cell x c e
  exact ⟨v,cellK x c e v z⟩
 ·obtain ⟨m,⟨o,_,_,ho,_⟩,_⟩:=I.loc
  exact free _ o (fun z=>(hch _ z).2.1 rfl) ho I.free
 ·obtain ⟨v,o,ho,hd⟩:=I.cell x c e
  exact free c o (fun z=>(hch c z).2.2.1 x c e rfl) ho (I.freeC x c e)
 ·obtain ⟨e,n,ne,nf,d⟩:=I.pin p hp
  have nch:p.1∉ch:=fun z=>(hch p.1 z).2.2.2 p hp rfl
  exact ⟨keep p.1 p.2 ne nf nch e n,free p.1 p.2 nch e n,ne,nf,d⟩
theorem Inv.un {t':Nat} (I:Inv X pins σ H s) (u:Un X.fs [] H H' s.heap h') (hok:HOk X.prog X.w H' h'):Inv X pins σ H' { s with heap:=h',toks:=t' }:=by
 obtain ⟨m,⟨o,es,ep,ho,r⟩,_⟩:=id I.loc
 obtain ⟨sl,hL⟩:=u.any ho I.free (by simp)
 exact I.step (g':=s.gens) (d':=s.drawn) (ch:=[]) (fun _ z=>nomatch z) (fun b o _ hb _ e n=>u.keep b o e n hb (by simp)) (fun b o _ hb _ e n=>u.slot b o e n hb (by simp)) (fun b o _ e n=>u.free b o e n (by simp)) (fun b o _ e=>u.there b o e (by simp)) u.tups u.frzs u.tbls (fun m' hm=>by
  obtain ⟨o',es',ep',ho',r'⟩:=hm
  rw [ho] at ho'; cases ho'
  exact ⟨_,es',ep',hL,r'⟩) hok I.bare
theorem Inv.call {g':Array GenState} {t':Nat} {d':Drawn} {ch:List Addr} (I:Inv X pins σ H s) (u:Un (frs X.stack) ch H H' s.heap h') (hok:HOk X.prog X.w H' h') (hg:AllBare g')
  (hch:∀ b∈ch,(b∈X.ex∨X.s₀.heap.objs.size<=b)/\b≠X.env.locals/\(∀ x c,X.env.cells.lookup x=some c->c≠b)/\∀ p∈X.pn++pins,p.1≠b) :
  Inv X pins σ H' { s with heap:=h',gens:=g',drawn:=d',toks:=t' }:=by
 obtain ⟨m,⟨o,es,ep,ho,r⟩,_⟩:=id I.loc
 obtain ⟨sl,hL⟩:=u.any ho I.free fun z=>(hch _ z).2.1 rfl
 exact I.step (ch:=ch) hch (fun b o hL hb hc e n=>u.keep b o e n (fun z=>(Qs.mp (I.stkSub b z)).elim hL hb) hc) (fun b o _ _ hc e n=>u.any e n hc) (fun b o hc e n=>u.free b o e n hc) (fun b o hc e=>u.there b o e hc) u.tups u.frzs u.tbls (fun m' hm=>by
  obtain ⟨o',es',ep',ho',r'⟩:=hm
  rw [ho] at ho'; cases ho'
  exact ⟨_,es',ep',hL,r'⟩) hok hg
theorem Inv.turned {t':Nat} {it:Addr} (I:Inv X pins σ H s) (k:∀ b o,b≠it->s.heap.get? b=some o->h'.get? b=some o) (hn:H it=none) (hL:it≠X.env.locals)
  (h1:it∈X.ex∨X.s₀.heap.objs.size<=it) (h2:∀ x c,X.env.cells.lookup x=some c->c≠it) (h3:∀ p∈X.pn++pins,p.1≠it):Inv X pins σ H { s with heap:=h',toks:=t' }:=by
 have nit:∀ b u,H b=some u->b≠it:=fun b u e z=>by rw [z,hn] at e; cases e
 refine I.step (g':=s.gens) (d':=s.drawn) (ch:=[it]) (fun b hb=>?_) (fun b o _ _ hc e _=>k b o (fun z=>hc (by simp [z])) e) (fun b o _ _ hc e _=>⟨o.slots,k b o (fun z=>hc (by simp [z])) e⟩) (fun _ _ _ _ n=>n)
  (fun b o hc e=>⟨o,k b o (fun z=>hc (by simp [z])) e⟩) (fun _ _ e=>e) (fun _ _ _ e=>e) (fun b ps e=>⟨#[],by rw [e]; simp⟩) (fun m hm=>?_) (fun b u e=>?_) I.bare
 ·have e:b=it:=by simpa using hb
  subst e
  exact ⟨h1,hL,h2,h3⟩
 ·obtain ⟨o,es,ep,ho,r⟩:=hm
  exact ⟨o,es,ep,k _ o (Ne.symm hL) ho,r⟩
 ·refine (I.hok b u e).stay (fun c v hc q=>k c v ?_ q) (fun _ q=>q) fun _ _ q=>q
  rcases hc with z | z
  ·rw [z]; exact nit b u e
  ·exact nit c _ z
theorem Inv.tok (I:Inv X pins σ H s) (t:Nat):Inv X pins σ H { s with toks:=t }:=I.un (h':=s.heap) (t':=t) Un.refl I.hok
theorem Inv.kept {t':Nat} (I:Inv X pins σ H s) (k:∀ b u,s.heap.get? b=some u->h'.get? b=some u):Inv X pins σ H { s with heap:=h',toks:=t' }:=I.un (Un.kept k) (I.hok.kept k)
theorem Inv.laid {a:Addr} {o:HO} {t':Nat} (I:Inv X pins σ H s) (k:∀ b u,s.heap.get? b=some u->h'.get? b=some u) (hp:s.heap.objs.size<=a) (new:bB X.prog X.w (upd H a o) h' a o) :
  Inv X pins σ (upd H a o) { s with heap:=h',toks:=t' }:=I.un (Un.laid k hp (I.hok.fresh hp)) (I.hok.laid k hp new)
theorem Inv.write {x e:Addr} {o:HO} {t':Nat} (I:Inv X pins σ H s) (mu:Mut (H x)) (he:e=x∨H e=some (.own x)) (k:∀ b u,b≠e->s.heap.get? b=some u->h'.get? b=some u) (heo:∃ u,h'.get? e=some u)
  (new:bB X.prog X.w (upd H x o) h' x o):Inv X pins σ (upd H x o) { s with heap:=h',toks:=t' }:=I.un (Un.write mu he k heo) (I.hok.write mu he k heo new)
theorem Inv.pins_of {pins':List (Addr×Obj)} (I:Inv X pins σ H s) (h:∀ p∈pins',s.heap.get? p.1=some p.2/\H p.1=none/\p.1≠X.env.locals/\p.1∉X.fs/\∀ v,p.2.data≠.cell v):Inv X pins' σ H s :=
 ⟨I.ok,I.os,I.bare,I.base,I.loc,I.cell,I.free,I.freeC,fun p hp=>(Jq.mp hp).elim (fun z=>I.pin p (Jm _ z)) (h p),I.hok,I.len⟩
theorem rP {N:List Str} (hN:N.Nodup) {i j:Nat} {x:Str} (a:N[i]?=some x) (b:N[j]?=some x):i=j:=by
 obtain ⟨h1,e1⟩:=Qa.mp a
 obtain ⟨h2,e2⟩:=Qa.mp b
 exact (Wf hN).mp (e1.trans e2.symm)
theorem oV {M:Model} {A:Around} {E:Value->Shared->Prop} {i:Nat} {x:Str} {v:V} {u:Value} {Q:Unit->Shared->Prop} (I:Inv X pins σ H s) (hN:X.N.Nodup) (hi:X.N[i]?=some x) (hx:Loc X.env.scope x) (r:aQ v u)
  (h:∀ s',Inv X pins (σ.set i (some v)) H s'->(∃ a,Heap.SameBut a s.heap s'.heap/\(a=X.env.locals∨X.env.cells.lookup x=some a))->Q () s') (hf:X.fn x=true∨X.env.scope.names.lookup x=some .local:=by first | exact .inl rfl | exact .inr rfl | assumption):wpAny M A (storeName X.env x u) Q E s:=by
 obtain ⟨m,hn,hl⟩:=id I.loc
 have hcls:(X.env.scope.kind==.class || (X.env.scope.kind==.module && X.env.locals !=X.env.globals))=false:=by rw [I.ok.kind]; rfl
 have hiσ:i < σ.length:=by rw [I.len]; exact (Qa.mp hi).1
 have cne:=I.cne
 have tracked:∀ {a:Addr} {h':Heap},(∃ o,s.heap.get? a=some o/\H a=none)->Heap.SameBut a s.heap h'->HOk X.prog X.w H h':=fun {a h'} ha hs b ob e=>by
  obtain ⟨_,_,hfree⟩:=ha
  refine (I.hok b ob e).stay (fun c w' hc q=>(hs.2 c ?_).trans q) (fun _ q=>q) fun _ _ q=>q
  rintro rfl
  rcases hc with rfl | hc
  ·rw [hfree] at e; cases e
  ·rw [hfree] at hc; cases hc
 rcases hx with hk | hk
 ·refine wpAny_storeName_local hk hn (fun h' hn' hs=>?_) hcls
  obtain ⟨oL,_,_,hoL,_⟩:=id hn
  refine h _ ⟨I.ok,I.os,I.bare,⟨fun b o e n hb hx=>?_,fun b o e n hb hx=>?_,I.base.free,fun b o e hx=>?_,I.base.tups,I.base.frzs,I.base.tbls⟩,⟨_,hn',fun j y v' e1 e2 e3=>?_⟩,fun y c e=>?_,I.free,I.freeC,fun p hp=>?_,tracked ⟨oL,hoL,I.free⟩ hs,by simpa using I.len⟩ ⟨_,hs,.inl rfl⟩
  ·exact (hs.2 b (Jd (Qo (Qk e) I.ok.above))).trans (I.base.keep b o e n hb hx)
  ·obtain ⟨sl,e1⟩:=I.base.slot b o e n hb hx
   exact ⟨sl,(hs.2 b (Jd (Qo (Qk e) I.ok.above))).trans e1⟩
  ·obtain ⟨o',e1⟩:=I.base.there b o e hx
   exact ⟨o',(hs.2 b (Jd (Qo (Qk e) I.ok.above))).trans e1⟩
  ·by_cases hj:j=i
   ·subst hj
    rw [hi] at e1; cases e1
    rw [Wh hiσ] at e2
    cases e2
    exact ⟨u,r,.inl ⟨hk,by simp⟩⟩
   ·rw [Wp (Ne.symm hj)] at e2
    obtain ⟨u',r',q⟩:=hl j y v' e1 e2 e3
    refine ⟨u',r',?_⟩
    rcases q with ⟨k,e⟩ | ⟨k,c,e,z⟩
    ·refine .inl ⟨k,?_⟩
     have:y≠x:=fun e=>hj (rP hN e1 (e ▸ hi))
     simp [this,e]
    ·exact .inr ⟨k,c,e,z.sameBut hs (cne y c e)⟩
  ·obtain ⟨w',z⟩:=I.cell y c e
   exact ⟨w',z.sameBut hs (cne y c e)⟩
  ·obtain ⟨e,n,ne,nf,d⟩:=I.pin p hp
   exact ⟨(hs.2 p.1 ne).trans e,n,ne,nf,d⟩
 ·have hfn:X.fn x=true:=by
   rcases hf with z | z
   ·exact z
   ·rw [z] at hk; cases hk
  obtain ⟨c,hc⟩:=I.ok.has x (.inl hk)
  obtain ⟨w',z⟩:=I.cell x c hc
  refine wpAny_storeName_cell I.ok.kind hk hc z (fun h' hc' hs=>?_)
  obtain ⟨oc,hoc,hocd⟩:=id z
  refine h { s with heap:=h' } ⟨I.ok,I.os,I.bare,⟨fun b o e n hb hx=>?_,fun b o e n hb hx=>?_,I.base.free,fun b o e hx=>?_,I.base.tups,I.base.frzs,I.base.tbls⟩,⟨m,hn.sameBut hs (Ne.symm (cne x c hc)),fun j y v' e1 e2 e3=>?_⟩,fun y c' e=>?_,I.free,I.freeC,fun p hp=>?_,tracked ⟨oc,hoc,I.freeC x c hc⟩ hs,by simpa using I.len⟩ ⟨c,hs,.inr hc⟩
  ·exact (hs.2 b (Jd (Qo (Qk e) (I.ok.cab x c hfn hc)))).trans (I.base.keep b o e n hb hx)
  ·obtain ⟨sl,e1⟩:=I.base.slot b o e n hb hx
   exact ⟨sl,(hs.2 b (Jd (Qo (Qk e) (I.ok.cab x c hfn hc)))).trans e1⟩
  ·obtain ⟨o',e1⟩:=I.base.there b o e hx
   exact ⟨o',(hs.2 b (Jd (Qo (Qk e) (I.ok.cab x c hfn hc)))).trans e1⟩
  ·by_cases hj:j=i
   ·subst hj
    rw [hi] at e1; cases e1
    rw [Wh hiσ] at e2
    cases e2
    exact ⟨u,r,.inr ⟨.inl hk,c,hc,hc'⟩⟩
   ·rw [Wp (Ne.symm hj)] at e2
    obtain ⟨u',r',q⟩:=hl j y v' e1 e2 e3
    refine ⟨u',r',?_⟩
    rcases q with q | ⟨k,c',e,z'⟩
    ·exact .inl q
    ·refine .inr ⟨k,c',e,z'.sameBut hs ?_⟩
     rintro rfl
     exact hj (rP hN e1 (I.ok.inj _ _ _ e hc ▸ hi))
  ·by_cases hcc:c'=c
   ·subst hcc; exact ⟨_,hc'⟩
   ·obtain ⟨w2,z2⟩:=I.cell y c' e
    exact ⟨w2,z2.sameBut hs hcc⟩
  ·obtain ⟨e,n,ne,nf,d⟩:=I.pin p hp
   refine ⟨(hs.2 p.1 ?_).trans e,n,ne,nf,d⟩
   intro q
   rw [q,hoc] at e
   have q':oc=p.2:=Option.some.inj e
   exact d w' (by rw [<- q']; exact hocd)
theorem rQ {M:Model} {A:Around} {E:Value->Shared->Prop} {i:Nat} {x:Str} {v:V} {u:Value} {Q:Unit->Shared->Prop} (I:Inv X pins σ H s) (hN:X.N.Nodup) (hi:X.N[i]?=some x) (hx:Loc X.env.scope x) (r:aQ v u)
  (h:∀ s',Inv X pins (σ.set i (some v)) H s'->Q () s') (hf:X.fn x=true∨X.env.scope.names.lookup x=some .local:=by first | exact .inl rfl | exact .inr rfl | assumption):wpAny M A (storeName X.env x u) Q E s :=
 oV I hN hi hx r (fun s' I' _=>h s' I') hf
theorem Inv.call' {s':Shared} {ch:List Addr} (I:Inv X pins σ H s) (ho:s'.os=s.os) (u:Un (frs X.stack) ch H H' s.heap s'.heap) (hok:HOk X.prog X.w H' s'.heap) (hg:AllBare s'.gens)
  (hch:∀ b∈ch,(b∈X.ex∨X.s₀.heap.objs.size<=b)/\b≠X.env.locals/\(∀ x c,X.env.cells.lookup x=some c->c≠b)/\∀ p∈X.pn++pins,p.1≠b):Inv X pins σ H' s':=by
 obtain ⟨h',g',d',t',o'⟩:=s'
 have e:o'=s.os:=ho
 subst e
 exact I.call (g':=g') (t':=t') (d':=d') u hok hg hch
end
abbrev XK:=Value->Option Addr->Hp->Prop
abbrev St:=List (Option V)
abbrev VK:=V->Hp->Prop
abbrev TE:=St->Hp->VK->Prop
abbrev TT:=St->Hp->(Bool->Hp->Prop)->Prop
abbrev TA:=St->Hp->(List V->Hp->Prop)->Prop
structure Ends where
 nx:St->Hp->Prop
 rt:VK
 bk:St->Hp->Prop:=fun _ _=>False
 ct:St->Hp->Prop:=fun _ _=>False
abbrev TS:=Ends->St->Hp->Prop
def EP (X:Cx) (pins:List (Addr×Obj)) (σ:St) (Q:VK) (u:Value) (s':Shared):Prop:=∃ v H',Inv X pins σ H' s'/\aQ v u/\Q v H'
def TP (X:Cx) (pins:List (Addr×Obj)) (σ:St) (Q:Bool->Hp->Prop) (b:Bool) (s':Shared):Prop:=∃ H',Inv X pins σ H' s'/\Q b H'
def AP (X:Cx) (pins:List (Addr×Obj)) (σ:St) (Q:List V->Hp->Prop) (us:List Value) (s':Shared):Prop:=∃ vs H',Inv X pins σ H' s'/\aO vs us/\Q vs H'
def SP (X:Cx) (pins:List (Addr×Obj)) (D:Ends) (f:Flow) (s':Shared):Prop :=
 match f with
 | .next=>∃ σ' H',Inv X pins σ' H' s'/\D.nx σ' H'
 | .brk=>∃ σ' H',Inv X pins σ' H' s'/\D.bk σ' H'
 | .cont=>∃ σ' H',Inv X pins σ' H' s'/\D.ct σ' H'
 | .ret u=>∃ v σ' H',Inv X pins σ' H' s'/\aQ v u/\D.rt v H'
def PE (X:Cx) (e:Expr) (t:TE):Prop :=
 ∀ (pins:List (Addr×Obj)) (s:Shared) (σ:St) (H:Hp) (Q:VK),Inv X pins σ H s->t σ H Q->wpAny (model X.prog X.w) X.A (eval e X.env) (EP X pins σ Q) X.xe s
def PT (X:Cx) (e:Expr) (t:TT):Prop :=
 ∀ (pins:List (Addr×Obj)) (s:Shared) (σ:St) (H:Hp) (Q:Bool->Hp->Prop),Inv X pins σ H s->t σ H Q->wpAny (model X.prog X.w) X.A (isTrue e X.env (eval e X.env)) (TP X pins σ Q) X.xe s
def PW (X:Cx) (e:Expr) (t:TT):Prop :=
 ∀ (whole:Sem Value) (pins:List (Addr×Obj)) (s:Shared) (σ:St) (H:Hp) (Q:Bool->Hp->Prop),Inv X pins σ H s->t σ H Q->wpAny (model X.prog X.w) X.A (isTrue e X.env whole) (TP X pins σ Q) X.xe s
theorem PW.pt {X:Cx} {e:Expr} {t:TT} (h:PW X e t):PT X e t:=h _
def PA (X:Cx) (es:List Expr) (t:TA):Prop :=
 ∀ (pos:Pos) (pins:List (Addr×Obj)) (s:Shared) (σ:St) (H:Hp) (Q:List V->Hp->Prop),Inv X pins σ H s->t σ H Q->wpAny (model X.prog X.w) X.A (spliced (backTo pos (starEach es X.env))) (AP X pins σ Q) X.xe s
def PS (X:Cx) (st:Stmt) (t:TS):Prop :=
 ∀ (pins:List (Addr×Obj)) (s:Shared) (σ:St) (H:Hp) (D:Ends),Inv X pins σ H s->t D σ H->wpAny (model X.prog X.w) X.A (exec st X.env) (SP X pins D) X.xe s
def PSs (X:Cx) (st:List Stmt) (t:TS):Prop :=
 ∀ (pins:List (Addr×Obj)) (s:Shared) (σ:St) (H:Hp) (D:Ends),Inv X pins σ H s->t D σ H->wpAny (model X.prog X.w) X.A (execs st X.env) (SP X pins D) X.xe s
theorem thn {α:Type} {t:Sem α} {Q Q':α->Shared->Prop} {M:Model} {A:Around} {E:Value->Shared->Prop} {s:Shared} (h:wpAny M A t Q E s) (hQ:∀ a s,Q a s->Q' a s):wpAny M A t Q' E s:=wpAny_mono h hQ fun _ _ x=>x
section
variable {X:Cx}
def rR (i:Nat):TE:=fun σ H Q=>∃ v,σ[i]?=some (some v)/\Q v H
abbrev tC (v:V):TE:=fun _ H Q=>Q v H
theorem aBk {i:Nat} {x:Str} {pos:Pos} (hN:X.N[i]?=some x) (hv:Vis X.env.scope x) (hd:(x==("__debug__" : Str))=false:=by decide) (hcd:(x==("__classdict__" : Str))=false:=by decide):PE X (.Name x pos) (rR i):=by
 intro pins s σ H Q I h
 obtain ⟨v,e,h⟩:=h
 obtain ⟨m,hn,hl⟩:=I.loc
 obtain ⟨u,r,l⟩:=hl i x v hN e hv
 have fin:EP X pins σ Q u s:=⟨v,H,I,r,h⟩
 rcases l with ⟨hk,hm⟩ | ⟨hk,c,hc,hcell⟩
 ·exact wpAny_Name (wpAny_loadName_local I.ok.kind hk hn hm fin) hd
 ·rcases hk with hk | hk
  ·exact wpAny_Name (wpAny_loadName_cell I.ok.kind hk hc hcell fin) hd
  ·exact wpAny_Name (wpAny_loadName_free I.ok.kind hk hc hcell fin hcd) hd
theorem aF {i j pos}:PE X (.Constant (.int i) j pos) (tC (.int i)):=fun _ _ _ H _ I h=>wpAny_Constant_int ⟨.int i,H,I.tok _,⟨_,rfl⟩,h⟩
theorem gH {b j pos}:PE X (.Constant (.bool b) j pos) (tC (.bl b)):=fun _ _ _ H _ I h=>Constant_bool ⟨.bl b,H,I,rfl,h⟩
theorem aBl {j pos}:PE X (.Constant .none j pos) (tC .non):=fun _ _ _ H _ I h=>Constant_none ⟨.non,H,I,rfl,h⟩
def Gl (X:Cx) (x:Str):Prop:=X.env.kindOf x=some .globalImplicit
theorem pY {E:Value->Shared->Prop} {pins:List (Addr×Obj)} {s:Shared} {σ:St} {H:Hp} {x:Str} {u:Value} {pos:Pos} {Q:Value->Shared->Prop} (I:Inv X pins σ H s) (hg:Gl X x) (hm:X.mg x=some u) (h:Q u s)
  (hd:(x==("__debug__" : Str))=false:=by decide):wpAny (model X.prog X.w) X.A (eval (.Name x pos) X.env) Q E s :=
 Calls.Name_function_global I.ok.kind hg (Calls.loadGlobal_global (by rw [I.ok.glob]; exact I.mod.glob.keeps I.bk) hm h) hd
theorem iY {E:Value->Shared->Prop} {pins:List (Addr×Obj)} {s:Shared} {σ:St} {H:Hp} {x:Str} {u:Value} {pos:Pos} {Q:Value->Shared->Prop} (I:Inv X pins σ H s) (hg:Gl X x) (hm:X.mg x=none) (hv:bootBuiltins x=some u) (h:Q u s)
  (hn:x ≠ "__name__" := by decide) (hd:(x==("__debug__" : Str))=false:=by decide):wpAny (model X.prog X.w) X.A (eval (.Name x pos) X.env) Q E s:=by
 obtain ⟨mb,h1,h2⟩:=I.mod.blt
 exact Calls.Name_function_global I.ok.kind hg (Calls.loadGlobal_builtin (by rw [I.ok.glob]; exact I.mod.glob.keeps I.bk) hm (by rw [I.ok.blt]; exact h1.keeps I.bk) ((h2 x hn).trans hv) h) hd
theorem pZ {x:Str} {v:V} {u:Value} {pos:Pos} (hg:Gl X x) (hm:X.mg x=some u) (r:aQ v u) (hd:(x==("__debug__" : Str))=false:=by decide):PE X (.Name x pos) (tC v) :=
 fun _ _ _ H _ I h=>pY I hg hm ⟨v,H,I,r,h⟩ hd
theorem qA {x:Str} {v:V} {u:Value} {pos:Pos} (hg:Gl X x) (hm:X.mg x=none) (hv:bootBuiltins x=some u) (r:aQ v u) (hn:x ≠ "__name__" := by decide) (hd:(x==("__debug__" : Str))=false:=by decide):PE X (.Name x pos) (tC v) :=
 fun _ _ _ H _ I h=>iY I hg hm hv ⟨v,H,I,r,h⟩ hn hd
variable {a b:Expr} {ta tb:TE} {pos:Pos}
def PC (X:Cx) (op:CmpOp) (a b:Expr) (t:TE):Prop :=
 ∀ (pins:List (Addr×Obj)) (s:Shared) (σ:St) (H:Hp) (Q:VK),Inv X pins σ H s->t σ H Q ->
  wpAny (model X.prog X.w) X.A (eval a X.env) (fun v s₁=>wpAny (model X.prog X.w) X.A (eval b X.env) (fun u s₂=>wpAny (model X.prog X.w) X.A (compareOp op v u) (EP X pins σ Q) X.xe s₂) X.xe s₁) X.xe s
theorem xJ (b:Expr) {op:CmpOp} (h:op≠.In) (h2:op≠.NotIn):behindInMarks op b=false:=by
 have e1:(op==CmpOp.In)=false:=by cases op <;> first | rfl | exact absurd rfl h
 have e2:(op==CmpOp.NotIn)=false:=by cases op <;> first | rfl | exact absurd rfl h2
 cases b <;> simp [behindInMarks,e1,e2]
def aB0 (ta:TE):TE:=fun σ H Q=>ta σ H fun x H1=>Q (.bl (!decide (x=.non))) H1
theorem aQ.none_iff {x:V} {v:Value} (r:aQ x v):(v==Value.none)=decide (x=.non):=by
 cases x with
 | non=>cases r; rfl
 | bl _=>cases r; rfl
 | int _=>obtain ⟨t,rfl⟩:=r; rfl
 | str _=>obtain ⟨t,rfl⟩:=r; rfl
 | byt _=>obtain ⟨t,rfl⟩:=r; rfl
 | flt _=>obtain ⟨t,rfl⟩:=r; rfl
 | ref _=>cases r; rfl
 | ty _=>cases r; rfl
theorem aAj {j pos'} (ha:PE X a ta):PC X .IsNot a (.Constant .none j pos') (aB0 ta):=by
 intro pins s σ H Q I h
 refine thn (ha pins s σ H _ I h) fun v s1 hx9=>?_
 obtain ⟨x,H1,I1,r1,q1⟩:=hx9
 exact Constant_none (isnot_none_gen ⟨.bl _,H1,I1,by rw [r1.none_iff]; rfl,q1⟩)
def tB (t:TE):TT:=fun σ H Q=>t σ H fun x H1=>∃ c,x=.bl c/\Q c H1
theorem qB {op:CmpOp} {t:TE} (h:PC X op a b t) (h1:behindInMarks op b=false:=by first | exact xJ _ (by decide) (by decide) | rfl):PT X (.Compare a [op] [b] pos) (tB t):=by
 intro pins s σ H Q I hw
 refine wpAny_isTrue_Compare1 (thn (h pins s σ H _ I hw) fun v s1 h1=>thn h1 fun u s2 h2=>thn h2 fun c s3 hx9=>?_) h1
 obtain ⟨x,H1,I1,r1,q1⟩:=hx9
 obtain ⟨d,rfl,q⟩:=q1
 cases r1
 exact wpAny_truthy_bool ⟨H1,I1,q⟩
theorem gB {e:Expr} {t:TE} (h:PE X e t) (he:∀ whole,isTrue e X.env whole=(do let v<-whole; standAt e.pos; holding [v] (truthy v)):=by intro _; rfl):PT X e (tB t):=by
 intro pins s σ H Q I hw
 refine isTrue_plain (thn (h pins s σ H _ I hw) fun v s1 hx9=>?_) (he _)
 obtain ⟨x,H1,I1,r1,q1⟩:=hx9
 obtain ⟨d,rfl,q⟩:=q1
 cases r1
 exact wpAny_truthy_bool ⟨H1,I1,q⟩
variable {tA tB':TT} {gL:List Expr}
def aCF (t u:TT):TT:=fun σ H Q=>t σ H fun c H1=>if c=true then u σ H1 Q else Q false H1
def tOr (t u:TT):TT:=fun σ H Q=>t σ H fun c H1=>if c=true then Q true H1 else u σ H1 Q
def aB1 (t:TT):TT:=fun σ H Q=>t σ H fun c H1=>Q (!c) H1
theorem uT (ha:PT X a tA):PW X (.BoolOp .And [a] pos) tA:=by
 intro wh pins s σ H Q I h
 refine isTrue_and (thn (ha pins s σ H Q I h) fun c s1 e=>?_)
 cases c with
 | true=>exact isTrue_and_nil e
 | false=>exact e
theorem fG (ha:PT X a tA):PW X (.BoolOp .Or [a] pos) tA:=by
 intro wh pins s σ H Q I h
 refine isTrue_or (thn (ha pins s σ H Q I h) fun c s1 e=>?_)
 cases c with
 | false=>exact isTrue_or_nil e
 | true=>exact e
theorem xK (ha:PT X a tA) (hb:PW X (.BoolOp .And (b::gL) pos) tB'):PW X (.BoolOp .And (a::b::gL) pos) (aCF tA tB'):=by
 intro wh pins s σ H Q I h
 refine isTrue_and (thn (ha pins s σ H _ I h) fun c s1 hx9=>?_)
 obtain ⟨H1,I1,q1⟩:=hx9
 cases c with
 | true=>exact hb wh pins s1 σ H1 Q I1 q1
 | false=>exact ⟨H1,I1,q1⟩
theorem gI (ha:PT X a tA) (hb:PW X (.BoolOp .Or (b::gL) pos) tB'):PW X (.BoolOp .Or (a::b::gL) pos) (tOr tA tB'):=by
 intro wh pins s σ H Q I h
 refine isTrue_or (thn (ha pins s σ H _ I h) fun c s1 hx9=>?_)
 obtain ⟨H1,I1,q1⟩:=hx9
 cases c with
 | true=>exact ⟨H1,I1,q1⟩
 | false=>exact hb wh pins s1 σ H1 Q I1 q1
theorem iZ (ha:PT X a tA):PT X (.UnaryOp .Not a pos) (aB1 tA):=by
 intro pins s σ H Q I h
 exact isTrue_not (ha pins s σ H (fun c H1=>Q (!c) H1) I h)
def aB2 (ta tb:TE):TE:=fun σ H Q=>ta σ H fun x H1=>∃ c,x=.bl c/\if c=true then tb σ H1 Q else Q (.bl false) H1
def aB3 (ta:TE):TE:=fun σ H Q=>ta σ H fun x H1=>∃ c,x=.bl c/\Q (.bl (!c)) H1
theorem tQ {op} {t:TE} (h:PE X a t):PE X (.BoolOp op [a] pos) t:=fun pins s σ H Q I hw=>BoolOp_one (h pins s σ H Q I hw)
theorem tR (ha:PE X a ta) (hb:PE X (.BoolOp .And (b::gL) pos) tb):PE X (.BoolOp .And (a::b::gL) pos) (aB2 ta tb):=by
 intro pins s σ H Q I h
 refine BoolOp_and (thn (ha pins s σ H _ I h) fun v s1 hx9=>?_)
 obtain ⟨x,H1,I1,r1,q1⟩:=hx9
 obtain ⟨c,rfl,q1⟩:=q1
 cases r1
 refine wpAny_truthy_bool ?_
 cases c with
 | true=>exact hb pins s1 σ H1 Q I1 q1
 | false=>exact ⟨.bl false,H1,I1,rfl,q1⟩
theorem aBm (ha:PE X a ta):PE X (.UnaryOp .Not a pos) (aB3 ta):=by
 intro pins s σ H Q I h
 refine UnaryOp_ (thn (ha pins s σ H _ I h) fun v s1 hx9=>?_)
 obtain ⟨x,H1,I1,r1,q1⟩:=hx9
 obtain ⟨c,rfl,q1⟩:=q1
 cases r1
 exact not_of (wpAny_truthy_bool ⟨.bl (!c),H1,I1,rfl,q1⟩)
end
def SqL (K:PySem.W.Frag) (H:Hp) (a:Addr) (xs:List V):Prop :=
 Rd H a (.lst xs) ∨
  ∃ (o:Obj) (its:Array Value) (n:Nat),K.lookup a=some o/\o.cls=.type "list" /\ o.dict=none/\o.data=.seq its n/\its.size<=sizeLine/\aO xs its.toList
def SqT (K:PySem.W.Frag) (H:Hp) (a:Addr) (xs:List V):Prop :=
 Rd H a (.tup xs) ∨
  ∃ (o:Obj) (its:Array Value) (n:Nat),K.lookup a=some o/\o.cls=.type "tuple" /\ o.dict=none/\o.data=.seq its n/\its.size<=sizeLine/\aO xs its.toList
def aCG:Value->Option V
 | .none=>some .non
 | .bool b=>some (.bl b)
 | .int i _=>some (.int i)
 | .str x _=>some (.str x)
 | .bytes b _=>some (.byt b)
 | .float b _=>some (.flt b)
 | .ref a=>some (.ref a)
 | .type n=>some (.ty n)
 | _=>none
theorem aQ.abs {x:V} {u:Value} (r:aQ x u):aCG u=some x:=by
 cases x with
 | non=>cases r; rfl
 | bl _=>cases r; rfl
 | int _=>obtain ⟨t,rfl⟩:=r; rfl
 | str _=>obtain ⟨t,rfl⟩:=r; rfl
 | byt _=>obtain ⟨t,rfl⟩:=r; rfl
 | flt _=>obtain ⟨t,rfl⟩:=r; rfl
 | ref _=>cases r; rfl
 | ty _=>cases r; rfl
theorem aQ.inj {x y:V} {u:Value} (r:aQ x u) (q:aQ y u):x=y:=Option.some.inj (r.abs.symm.trans q.abs)
theorem aO.inj:∀ {xs ys:List V} {us:List Value},aO xs us->aO ys us->xs=ys
 := by
 intro xs ys us h
 induction h generalizing ys with
 | nil=>intro q; cases q; rfl
 | cons r t ih=>intro q; cases q with | cons r' t'=>rw [r.inj r',ih t']
section
variable {X:Cx} {pins:List (Addr×Obj)} {σ:St} {H:Hp} {s:Shared} {a:Addr} {xs ys:List V}
theorem SqL.of {K:PySem.W.Frag} (h:H a=some (.lst xs)):SqL K H a xs:=.inl (.inl h)
theorem SqT.of {K:PySem.W.Frag} (h:H a=some (.tup xs)):SqT K H a xs:=.inl (.inl h)
theorem Inv.list (I:Inv X pins σ H s) (h:SqL X.K H a xs):∃ its:List Value,aO xs its/\PlainL s.heap a its.toArray/\xs.length<=sizeLine:=by
 rcases h with h | ⟨o,its,n,hk,hc,hd,hs,hz,r⟩
 ·obtain ⟨z,its,n,r,e⟩:=h.ok I.hok
  exact ⟨its,r,⟨_,n,e,rfl,rfl,rfl⟩,z⟩
 ·refine ⟨its.toList,r,⟨o,n,I.kIn a o hk,hc,hd,by simpa using hs⟩,?_⟩
  have e:=r.length
  simp only [Array.length_toList] at e
  omega
theorem Inv.tuple (I:Inv X pins σ H s) (h:SqT X.K H a xs):∃ its:List Value,aO xs its/\IsTup s.heap a its.toArray/\xs.length<=sizeLine:=by
 rcases h with h | ⟨o,its,n,hk,hc,_,hs,hz,r⟩
 ·obtain ⟨z,its,n,r,p⟩:=h.ok I.hok
  exact ⟨its,r,⟨_,p,rfl,n,rfl⟩,z⟩
 ·refine ⟨its.toList,r,⟨o,I.kIn a o hk,hc,n,by simpa using hs⟩,?_⟩
  have e:=r.length
  simp only [Array.length_toList] at e
  omega
theorem Inv.list_inj (I:Inv X pins σ H s) (h:SqL X.K H a xs) (h':SqL X.K H a ys):xs=ys:=by
 obtain ⟨its,r,⟨o,n,e,_,_,d⟩,_⟩:=I.list h
 obtain ⟨its',r',⟨o',n',e',_,_,d'⟩,_⟩:=I.list h'
 rw [e] at e'; cases e'
 rw [d] at d'
 injection d' with d1 _
 have:its=its':=by simpa using congrArg Array.toList d1
 subst this
 exact r.inj r'
theorem Inv.tuple_inj (I:Inv X pins σ H s) (h:SqT X.K H a xs) (h':SqT X.K H a ys):xs=ys:=by
 obtain ⟨its,r,⟨o,e,_,n,d⟩,_⟩:=I.tuple h
 obtain ⟨its',r',⟨o',e',_,n',d'⟩,_⟩:=I.tuple h'
 rw [e] at e'; cases e'
 rw [d] at d'
 injection d' with d1 _
 have:its=its':=by simpa using congrArg Array.toList d1
 subst this
 exact r.inj r'
end
abbrev Cx.wish (X:Cx) (E:Value->Shared->Prop):Cx:={ X with xe:=E }
abbrev Cx.nox (X:Cx):Cx:=X.wish fun _ _=>False
theorem Cx.Ok.wish {X:Cx} (ok:X.Ok) (E:Value->Shared->Prop):(X.wish E).Ok :=
 ⟨ok.mod,ok.kind,ok.glob,ok.blt,ok.above,ok.inj,ok.has,ok.cab,ok.hd,ok.frames,ok.stk,ok.exf,ok.bs,ok.bsz,ok.noex,ok.exfs,ok.funs,ok.frf⟩
theorem Cx.Ok.unwish {X:Cx} {E:Value->Shared->Prop} (ok:(X.wish E).Ok):X.Ok :=
 ⟨ok.mod,ok.kind,ok.glob,ok.blt,ok.above,ok.inj,ok.has,ok.cab,ok.hd,ok.frames,ok.stk,ok.exf,ok.bs,ok.bsz,ok.noex,ok.exfs,ok.funs,ok.frf⟩
section
variable {X:Cx} {pins:List (Addr×Obj)} {σ:St} {H:Hp} {s:Shared} {E:Value->Shared->Prop}
theorem Inv.wish (I:Inv X pins σ H s) (E:Value->Shared->Prop):Inv (X.wish E) pins σ H s:=⟨I.ok.wish E,I.os,I.bare,I.base,I.loc,I.cell,I.free,I.freeC,I.pin,I.hok,I.len⟩
theorem Inv.unwish (I:Inv (X.wish E) pins σ H s):Inv X pins σ H s:=⟨I.ok.unwish,I.os,I.bare,I.base,I.loc,I.cell,I.free,I.freeC,I.pin,I.hok,I.len⟩
theorem SP.unwish {D:Ends} {f:Flow} {s':Shared} (h:SP (X.wish E) pins D f s'):SP X pins D f s':=by
 cases f with
 | next=>obtain ⟨σ',H',I,q⟩:=h; exact ⟨σ',H',I.unwish,q⟩
 | brk=>obtain ⟨σ',H',I,q⟩:=h; exact ⟨σ',H',I.unwish,q⟩
 | cont=>obtain ⟨σ',H',I,q⟩:=h; exact ⟨σ',H',I.unwish,q⟩
 | ret u=>obtain ⟨v,σ',H',I,r,q⟩:=h; exact ⟨v,σ',H',I.unwish,r,q⟩
theorem PE.nox {e:Expr} {t:TE} (h:PE X.nox e t):PE X e t:=fun pins s σ H Q I hw =>
 wpAny_mono (h pins s σ H Q (I.wish _) hw) (fun _ _ ⟨v,H',I',r,q⟩=>⟨v,H',I'.unwish,r,q⟩) fun _ _ z=>False.elim z
theorem PT.nox {e:Expr} {t:TT} (h:PT X.nox e t):PT X e t:=fun pins s σ H Q I hw =>
 wpAny_mono (h pins s σ H Q (I.wish _) hw) (fun _ _ ⟨H',I',q⟩=>⟨H',I'.unwish,q⟩) fun _ _ z=>False.elim z
theorem PSs.nox {st:List Stmt} {t:TS} (h:PSs X.nox st t):PSs X st t:=fun pins s σ H D I hw =>
 wpAny_mono (h pins s σ H D (I.wish _) hw) (fun _ _ q=>q.unwish) fun _ _ z=>False.elim z
end
section
variable {X:Cx} {st:Stmt} {gL:List Stmt} {t u:TS} {e:Expr} {te:TE} {pos:Pos}
def iQ:TS:=fun D σ H=>D.nx σ H
def aB4 (t u:TS):TS:=fun D σ H=>t { D with nx:=u D } σ H
theorem bI:PSs X [] iQ:=fun _ _ σ H _ I h=>wpAny_execs_nil ⟨σ,H,I,h⟩
theorem aC (h1:PS X st t) (h2:PSs X gL u):PSs X (st::gL) (aB4 t u):=by
 intro pins s σ H D I h
 refine wpAny_execs_cons (thn (h1 pins s σ H { D with nx:=u D } I h) fun f s1 q=>?_)
 cases f with
 | next =>
  obtain ⟨σ',H',I',q⟩:=q
  exact h2 pins s1 σ' H' D I' q
 | ret v=>exact q
 | brk=>exact q
 | cont=>exact q
theorem aH (h1:PS X st t):PSs X [st] t:=by
 intro pins s σ H D I h
 refine wpAny_execs_cons (thn (h1 pins s σ H D I h) fun f s1 q=>?_)
 cases f with
 | next=>exact wpAny_execs_nil q
 | ret v=>exact q
 | brk=>exact q
 | cont=>exact q
theorem Inv.quiet {pins:List (Addr×Obj)} {σ:St} {H:Hp} {s:Shared} (I:Inv X pins σ H s):interactive X.env=false:=by simp [interactive,I.ok.kind]
def aB5 (te:TE):TS:=fun D σ H=>te σ H fun _ H1=>D.nx σ H1
theorem bT (he:PE X e te) (hs:swapsWith e none pos.line X.env=pure false:=by rfl):PS X (.Expr e pos) (aB5 te):=by
 intro pins s σ H D I h
 refine wpAny_Expr_any (thn (he pins s σ H _ I h) fun v s1 hx9=>?_) I.quiet hs
 obtain ⟨x,H1,I1,r1,q1⟩:=hx9
 exact ⟨σ,H1,I1,q1⟩
def aCH (te:TE):TS:=fun D σ H=>te σ H D.rt
theorem aZ (he:PE X e te):PS X (.Return (some e) pos) (aCH te):=by
 intro pins s σ H D I h
 refine wpAny_Return_some (thn (he pins s σ H _ I h) fun v s1 hx9=>?_)
 obtain ⟨x,H1,I1,r1,q1⟩:=hx9
 exact ⟨x,σ,H1,I1,r1,q1⟩
def aAk (c:TT) (t u:TS):TS:=fun D σ H=>c σ H fun b H1=>if b=true then t D σ H1 else u D σ H1
theorem cG {c:Expr} {a b:List Stmt} {tc:TT} (hc:PT X c tc) (ha:PSs X a t) (hb:PSs X b u):PS X (.If c a b pos) (aAk tc t u):=by
 intro pins s σ H D I h
 refine wpAny_If (thn (hc pins s σ H _ I h) fun d s1 hx9=>?_)
 obtain ⟨H1,I1,q1⟩:=hx9
 cases d with
 | true=>exact ha pins s1 σ H1 D I1 q1
 | false=>exact hb pins s1 σ H1 D I1 q1
def aBn:TS:=fun _ _ _=>False
theorem fO {sts:List Stmt}:PSs X sts aBn:=fun _ _ _ _ _ _ h=>h.elim
end
abbrev TG:=V->St->Hp->(St->Hp->Prop)->Prop
abbrev TGs:=List V->St->Hp->(St->Hp->Prop)->Prop
def PG (X:Cx) (target:Expr) (t:TG):Prop :=
 ∀ (pins:List (Addr×Obj)) (s:Shared) (σ:St) (H:Hp) (v:V) (u:Value) (Q:St->Hp->Prop),Inv X pins σ H s->aQ v u->t v σ H Q ->
  wpAny (model X.prog X.w) X.A (assign target X.env u) (fun _ s'=>∃ σ' H',Inv X pins σ' H' s'/\Q σ' H') X.xe s
def PGs (X:Cx) (ts:List Expr) (t:TGs):Prop :=
 ∀ (pins:List (Addr×Obj)) (s:Shared) (σ:St) (H:Hp) (vs:List V) (us:List Value) (Q:St->Hp->Prop),Inv X pins σ H s->aO vs us->t vs σ H Q ->
  wpAny (model X.prog X.w) X.A (assignInOrder ((assignEach ts X.env).map (·.2)) us) (fun _ s'=>∃ σ' H',Inv X pins σ' H' s'/\Q σ' H') X.xe s
abbrev aBo:=V->V->V->Hp->(Hp->Prop)->Prop
def aB6 (X:Cx) (t:aBo):Prop :=
 ∀ (pins:List (Addr×Obj)) (s:Shared) (σ:St) (H:Hp) (o i v:V) (ov iv u:Value) (Q:Hp->Prop),Inv X pins σ H s->aQ o ov->aQ i iv->aQ v u->t o i v H Q ->
  wpAny (model X.prog X.w) X.A (setItem ov iv u) (fun _ s'=>∃ H',Inv X pins σ H' s'/\Q H') X.xe s
section
variable {X:Cx} {pos:Pos}
def aT (i:Nat):TG:=fun v σ H Q=>Q (σ.set i (some v)) H
theorem aR {i:Nat} {x:Str} (hN:X.N.Nodup) (hi:X.N[i]?=some x) (hx:Loc X.env.scope x) (hf:X.fn x=true∨X.env.scope.names.lookup x=some .local:=by first | exact .inl rfl | exact .inr rfl | assumption):PG X (.Name x pos) (aT i):=by
 intro pins s σ H v u Q I r h
 exact wpAny_assign_Name (rQ I hN hi hx r (fun s' I'=>⟨_,H,I',h⟩) hf)
def aCI:TGs:=fun vs σ H Q=>vs = []/\Q σ H
def aB7 (t:TG) (u:TGs):TGs:=fun vs σ H Q=>∃ v r,vs=v::r/\t v σ H fun σ' H'=>u r σ' H' Q
theorem jF:PGs X [] aCI:=by
 intro pins s σ H vs us Q I r h
 obtain ⟨e,h⟩:=h
 subst e
 cases r
 exact assignInOrder_nil ⟨σ,H,I,h⟩
theorem cC {e:Expr} {es:List Expr} {t:TG} {u:TGs} (h1:PG X e t) (h2:PGs X es u)
  (hs:(assignEach (e::es) X.env).map (·.2)=assign e X.env::(assignEach es X.env).map (·.2):=by rfl):PGs X (e::es) (aB7 t u):=by
 intro pins s σ H vs us Q I r h
 obtain ⟨v,vr,e1,h⟩:=h
 subst e1
 cases r with
 | cons r rr =>
  rw [hs]
  refine assignInOrder_cons (thn (h1 pins s σ H _ _ _ I r h) fun _ s1 hx9=>?_)
  obtain ⟨σ1,H1,I1,q1⟩:=hx9
  exact h2 pins s1 σ1 H1 _ _ Q I1 rr q1
def aCJ (K:PySem.W.Frag) (n:Nat) (t:TGs):TG:=fun v σ H Q=>∃ a xs,v=.ref a/\SqT K H a xs/\xs.length=n/\t xs σ H Q
theorem lW {es:List Expr} {k:Nat} {t:TGs} {n:Nat} (hc:X.calm=true) (h:PGs X es t)
  (hn:(assignEach es X.env).length=n:=by rfl) (hst:(assignEach es X.env).findIdx? (·.1)=none:=by rfl):PG X (.Tuple es k pos) (aCJ X.K n t):=by
 intro pins s σ H v u Q I r hw
 obtain ⟨a,xs,e1,hq,hl,hw⟩:=hw
 subst e1
 cases r
 obtain ⟨its,rv,ht,hz⟩:=I.tuple hq
 refine assign_Tuple_tuple (I.ok.hd hc) ht (by simp [hn,<- hl,rv.length]) hst fun h' hx=>?_
 have I1:Inv X pins σ H { s with heap:=h' }:=I.kept (t':=s.toks) fun b o e=>hx b o (Jd (Qk e)) e
 exact h pins _ σ H xs _ Q I1 (by simpa using rv) hw
def aCK (to ti:TE) (t:aBo):TG:=fun v σ H Q=>to σ H fun o H1=>ti σ H1 fun i H2=>t o i v H2 fun H3=>Q σ H3
theorem tS {o i:Expr} {to ti:TE} {t:aBo} (ho:PE X o to) (hi:PE X i ti) (hs:aB6 X t)
  (ha:∀ v,assign (.Subscript o i pos) X.env v=(do
   let ov<-holding [v] (eval o X.env)
   let iv<-holding [v,ov] (eval i X.env)
   standAt pos
   holding [v,ov,iv] (setItem ov iv v)
   release [v,ov,iv] []):=by intro _; rfl):PG X (.Subscript o i pos) (aCK to ti t):=by
 intro pins s σ H v u Q I r h
 rw [ha]
 refine wpAny_bind (wpAny_holding (thn (ho pins s σ H _ I h) fun ov s1 hx9=>?_))
 obtain ⟨x,H1,I1,r1,q1⟩:=hx9
 refine wpAny_bind (wpAny_holding (thn (hi pins s1 σ H1 _ I1 q1) fun iv s2 hx9=>?_))
 obtain ⟨y,H2,I2,r2,q2⟩:=hx9
 refine wpAny_bind (wpAny_standAt (wpAny_bind (wpAny_holding (thn (hs pins s2 σ H2 x y v ov iv u _ I2 r1 r2 r q2) fun _ s3 hx9=>?_))))
 obtain ⟨H3,I3,q3⟩:=hx9
 exact wpAny_release ⟨σ,H3,I3,q3⟩
def aBp (te:TE) (g:TG):TS:=fun D σ H=>te σ H fun x H1=>g x σ H1 D.nx
theorem qC {tg e:Expr} {te:TE} {g:TG} (he:PE X e te) (hg:PG X tg g) (hs:swapsWithSole [tg] e pos.line X.env=pure false:=by rfl) (hw:swappedStores [tg] e X.env=pure none:=by rfl)
  (h1:(assignEach [tg] X.env).map (·.2) = [assign tg X.env]:=by rfl):PS X (.Assign [tg] e pos) (aBp te g):=by
 intro pins s σ H D I h
 refine wpAny_Assign_stores (thn (he pins s σ H _ I h) fun v s1 hx9=>?_) hs hw
 obtain ⟨x,H1,I1,r1,q1⟩:=hx9
 rw [h1]
 exact thn (hg pins s1 σ H1 x v _ I1 r1 q1) fun _ s2 q=>q
theorem aJ {i:Nat} {x:Str} {e:Expr} {te:TE} {pos':Pos} (hN:X.N.Nodup) (hi:X.N[i]?=some x) (hx:Loc X.env.scope x) (he:PE X e te) (hs:swapsWith e (some (.Name x pos')) pos.line X.env=pure false:=by rfl) (hf:X.fn x=true∨X.env.scope.names.lookup x=some .local:=by first | exact .inl rfl | exact .inr rfl | assumption) :
  PS X (.Assign [.Name x pos'] e pos) (aBp te (aT i)):=by
 intro pins s σ H D I h
 refine wpAny_Assign_Name (thn (he pins s σ H _ I h) fun v s1 hx9=>?_) hs
 obtain ⟨y,H1,I1,r1,q1⟩:=hx9
 exact rQ I1 hN hi hx r1 (fun s2 I2=>⟨_,H1,I2,q1⟩) hf
def aBq (c:TT) (tb:TS):TS:=fun D σ H=>∃ W:Nat->St->Hp->Prop,(∃ m,W m σ H)/\∀ m σ H,W m σ H ->
 c σ H fun b H1=>if b=true then ∃ N:St->Hp->Prop,(∀ σ' H',N σ' H'->∃ m',m' < m/\W m' σ' H')/\tb { D with nx:=N,ct:=N,bk:=D.nx } σ H1 else D.nx σ H1
theorem rS {c:Expr} {body:List Stmt} {tc:TT} {tb:TS} (hp:PassesOwn (model X.prog X.w) X.A X.env X.xe) (hc:PT X c tc) (hb:PSs X body tb):PS X (.While c body [] pos) (aBq tc tb):=by
 intro pins s σ H D I h
 obtain ⟨W,⟨m0,w0⟩,turn⟩:=h
 refine wpAny_While (codeAny_whileLoop (fun n s'=>∃ σ' H',Inv X pins σ' H' s'/\W n σ' H') ?_ m0 ⟨σ,H,I,w0⟩)
 rintro n s1 ⟨σ1,H1,I1,w1⟩
 refine wpAny_passesOwn hp (thn (hc pins s1 σ1 H1 _ I1 (turn n σ1 H1 w1)) fun b s2 hx9=>?_)
 obtain ⟨H2,I2,q2⟩:=hx9
 cases b with
 | true =>
  obtain ⟨N,hN,q2⟩:=q2
  rw [if_pos rfl]
  refine wpAny_passesOwn hp (thn (hb pins s2 σ1 H2 _ I2 q2) fun f s3 q3=>?_)
  cases f with
  | next =>
   obtain ⟨σ3,H3,I3,n3⟩:=q3
   obtain ⟨m',hm,w3⟩:=hN σ3 H3 n3
   exact ⟨m',hm,σ3,H3,I3,w3⟩
  | cont =>
   obtain ⟨σ3,H3,I3,n3⟩:=q3
   obtain ⟨m',hm,w3⟩:=hN σ3 H3 n3
   exact ⟨m',hm,σ3,H3,I3,w3⟩
  | brk=>exact q3
  | ret v=>exact q3
 | false =>
  rw [if_neg Qt]
  exact wpAny_execs_nil ⟨σ1,H2,I2,q2⟩
end
structure It where
 go:Nat->Hp->Prop
 yld:Nat->Hp->V->Hp->Prop
 stop:Nat->Hp->Prop
def kC (X:Cx) (pins:List (Addr×Obj)) (H:Hp) (b:Addr):Prop :=
 H b=none/\b≠X.env.locals/\b∉X.fs/\(b∈X.ex∨X.s₀.heap.objs.size<=b)/\(∀ x c,X.env.cells.lookup x=some c->c≠b)/\∀ p∈X.pn++pins,p.1≠b
theorem Inv.fpOk {X:Cx} {pins:List (Addr×Obj)} {σ:St} {H H':Hp} {s:Shared} {b:Addr} (I:Inv X pins σ H s) (hb:s.heap.objs.size<=b) (hn:H' b=none):kC X pins H' b:=by
 refine ⟨hn,Yk (Qo I.lt hb),I.nofs hb,.inr (Ja I.sz hb),fun x c e z=>?_,fun p hp z=>?_⟩
 ·obtain ⟨v,q⟩:=I.cell x c e
  exact absurd (Qo q.lt (by rw [z]; exact hb)) (Jn _)
 ·exact absurd (Qo (Qk (I.pin p hp).1) (by rw [z]; exact hb)) (Jn _)
structure Turn (P:Program) (w:World) (K:PySem.W.Frag) (tg:Expr) (J:It) (fp:List Addr) (it:Addr) (tn:Nat->Heap->Prop):Prop where
 mem:it∈fp
 obj:∀ i h,tn i h->∀ b∈fp,∃ o,h.get? b=some o/\∀ v,o.data≠.cell v
 keep:∀ i h h',tn i h->(∀ b∈fp,∀ o,h.get? b=some o->h'.get? b=some o)->tn i h'
 item:∀ (X:Cx),X.prog=P->X.w=w->X.K=K->X.calm=true->∀ (i:Nat) (pins:List (Addr×Obj)) (s:Shared) (σ:St) (H:Hp) (E:Value->Shared->Prop),Inv X pins σ H s->(∀ b∈fp,kC X pins H b)->tn i s.heap->J.go i H ->
  wpAny (model P w) X.A (pyNext (.ref it)) (fun r s1=>∃ u,r=some u /\
   wpAny (model P w) X.A (letOwnedTupleGo tg (.ref it) u) (fun _ s2=>∃ x H',Inv X pins σ H' s2/\aQ x u/\J.yld i H x H'/\tn (i+1) s2.heap/\∀ b∈fp,H' b=none) E s1) E s
 done:∀ (X:Cx),X.prog=P->X.w=w->X.K=K->X.calm=true->∀ (i:Nat) (pins:List (Addr×Obj)) (s:Shared) (σ:St) (H:Hp) (E:Value->Shared->Prop),Inv X pins σ H s->(∀ b∈fp,kC X pins H b)->tn i s.heap->J.stop i H ->
  wpAny (model P w) X.A (pyNext (.ref it)) (fun r s1=>r=none/\Inv X pins σ H s1) E s
 self:∀ (A:Around) (i:Nat) (s:Shared) (Q:Value->Shared->Prop) (E:Value->Shared->Prop),tn i s.heap->Q (.ref it) s->wpAny (model P w) A (pyIter (.ref it)) Q E s
abbrev TI:=St->Hp->(It->Hp->Prop)->Prop
def PIE (X:Cx) (pins:List (Addr×Obj)) (σ:St) (tg:Expr) (R:It->Hp->Prop) (itv:Value) (s2:Shared):Prop :=
 ∃ (it:Addr) (fp:List Addr) (tn:Nat->Heap->Prop) (J:It) (H':Hp),itv=.ref it/\Inv X pins σ H' s2/\Turn X.prog X.w X.K tg J fp it tn/\tn 0 s2.heap/\(∀ b∈fp,kC X pins H' b)/\R J H'
def PI (X:Cx) (tg iter:Expr) (wi:TI):Prop :=
 ∀ (pins:List (Addr×Obj)) (s:Shared) (σ:St) (H:Hp) (R:It->Hp->Prop),Inv X pins σ H s->wi σ H R ->
  wpAny (model X.prog X.w) X.A (eval iter X.env) (fun v s1=>wpAny (model X.prog X.w) X.A (pyIter v) (PIE X pins σ tg R) X.xe s1) X.xe s
theorem uU {M:Model} {A:Around} {E:Value->Shared->Prop} {s:Shared} {tg:Expr} {it:Addr} {u:Value} {o:Obj} {n:String} {vs:Array Value} {Q:Unit->Shared->Prop} (ho:s.heap.get? it=some o) (hc:o.cls=.type n) (hd:o.data=.fields vs)
  (hn : ["enumerate", "zip", "dict_itemiterator", "dict_reverseitemiterator", "odict_iterator", "itertools.zip_longest", "itertools.pairwise"].contains n=false) (hQ:Q () s):wpAny M A (letOwnedTupleGo tg (.ref it) u) Q E s:=by
 unfold letOwnedTupleGo
 cases tg <;> first
  | exact wpAny_pure hQ
  | (cases u <;> first
    | exact wpAny_pure hQ
    | (refine wpAny_bind (wpAny_load ho ?_)
       rw [hc,hd]
       show wpAny M A (if (["enumerate", "zip", "dict_itemiterator", "dict_reverseitemiterator", "odict_iterator", "itertools.zip_longest", "itertools.pairwise"].contains n && vs[0]?==some (rawInt _))=true then _ else _) Q E s
       rw [if_neg (by intro h; rw [hn,Bool.false_and] at h; cases h)]
       exact wpAny_pure hQ))
def Itl (K:PySem.W.Frag) (a:Addr):It :=
 ⟨fun i H=>∃ xs x,SqL K H a xs/\xs[i]?=some x,fun i H x H'=>H'=H/\∀ xs,SqL K H a xs->xs[i]?=some x,fun i H=>∃ xs,SqL K H a xs/\xs.length<=i⟩
def Itt (K:PySem.W.Frag) (a:Addr):It :=
 ⟨fun i H=>∃ xs x,SqT K H a xs/\xs[i]?=some x,fun i H x H'=>H'=H/\∀ xs,SqT K H a xs->xs[i]?=some x,fun i H=>∃ xs,SqT K H a xs/\xs.length<=i⟩
def Itr (lo:Int) (n:Nat):It:=⟨fun i _=>i < n,fun i H x H'=>H'=H/\x=.int (lo+i),fun i _=>n<=i⟩
theorem vZ {P:Program} {w:World} {K:PySem.W.Frag} {tg:Expr} (a it:Addr):Turn P w K tg (Itl K a) [it] it (fun i h=>h.IsListIter it a i) where
 mem:=by simp
 obj:=fun i h st b hb=>by
  have e:b=it:=by simpa using hb
  subst e
  obtain ⟨o,e,c,d⟩:=st
  exact ⟨o,e,fun v z=>by rw [d] at z; cases z⟩
 keep:=fun i h h' st k=>st.at fun o e=>k it (by simp) o e
 item:=by
  intro X hP hw hK hc i pins s σ H E I hf st hg
  subst hP hw hK
  obtain ⟨xs,x,hq,hx⟩:=hg
  obtain ⟨its,rv,p,hz⟩:=I.list hq
  obtain ⟨u,hu,ru⟩:=rv.get hx
  obtain ⟨f0,f1,f2,f3,f4,f5⟩:=hf it (by simp)
  refine wpAny_pyNext_list_item st p.isList (x:=u) (by simpa using hu) fun h' st' sb=>?_
  have I1:Inv X pins σ H { s with heap:=h' }:=I.turned (t':=s.toks) (fun b o hb e=>(sb.2 b hb).trans e) f0 f1 f3 f4 f5
  obtain ⟨o,e,c,d⟩:=id st'
  exact ⟨u,rfl,uU (s:={ s with heap:=h' }) e c d (by decide) ⟨x,H,I1,ru,⟨rfl,fun ys hy=>by rw [I.list_inj hy hq]; exact hx⟩,st',fun b hb=>(hf b hb).1⟩⟩
 done:=by
  intro X hP hw hK hc i pins s σ H E I hf st hg
  subst hP hw hK
  obtain ⟨xs,hq,hx⟩:=hg
  obtain ⟨its,rv,p,hz⟩:=I.list hq
  obtain ⟨f0,f1,f2,f3,f4,f5⟩:=hf it (by simp)
  have hl:=rv.length
  exact wpAny_pyNext_list_end (I.ok.hd hc) st p.isList (by simp; omega) fun h' eb=>⟨rfl,I.turned (t':=s.toks) (fun b o hb e=>eb b o hb e) f0 f1 f3 f4 f5⟩
 self:=fun _ _ _ _ _ st h=>wpAny_pyIter_listiter st h
theorem tT {P:Program} {w:World} {K:PySem.W.Frag} {tg:Expr} (a it:Addr):Turn P w K tg (Itt K a) [it] it (fun i h=>h.IsTupleIter it a i) where
 mem:=by simp
 obj:=fun i h st b hb=>by
  have e:b=it:=by simpa using hb
  subst e
  obtain ⟨o,e,c,d⟩:=st
  exact ⟨o,e,fun v z=>by rw [d] at z; cases z⟩
 keep:=fun i h h' st k=>st.at fun o e=>k it (by simp) o e
 item:=by
  intro X hP hw hK hc i pins s σ H E I hf st hg
  subst hP hw hK
  obtain ⟨xs,x,hq,hx⟩:=hg
  obtain ⟨its,rv,p,hz⟩:=I.tuple hq
  obtain ⟨u,hu,ru⟩:=rv.get hx
  obtain ⟨f0,f1,f2,f3,f4,f5⟩:=hf it (by simp)
  refine wpAny_pyNext_tuple_item st (show s.heap.IsTuple a its.toArray from p) (x:=u) (by simpa using hu) fun h' st' sb=>?_
  have I1:Inv X pins σ H { s with heap:=h' }:=I.turned (t':=s.toks) (fun b o hb e=>(sb.2 b hb).trans e) f0 f1 f3 f4 f5
  obtain ⟨o,e,c,d⟩:=id st'
  exact ⟨u,rfl,uU (s:={ s with heap:=h' }) e c d (by decide) ⟨x,H,I1,ru,⟨rfl,fun ys hy=>by rw [I.tuple_inj hy hq]; exact hx⟩,st',fun b hb=>(hf b hb).1⟩⟩
 done:=by
  intro X hP hw hK hc i pins s σ H E I hf st hg
  subst hP hw hK
  obtain ⟨xs,hq,hx⟩:=hg
  obtain ⟨its,rv,p,hz⟩:=I.tuple hq
  obtain ⟨f0,f1,f2,f3,f4,f5⟩:=hf it (by simp)
  have hl:=rv.length
  exact wpAny_pyNext_tuple_end (I.ok.hd hc) st (show s.heap.IsTuple a its.toArray from p) (by simp; omega) fun h' eb=>⟨rfl,I.turned (t':=s.toks) (fun b o hb e=>eb b o hb e) f0 f1 f3 f4 f5⟩
 self:=fun _ _ _ _ _ st h=>wpAny_pyIter_tupleiter st h
theorem tU {P:Program} {w:World} {K:PySem.W.Frag} {tg:Expr} (it:Addr) (lo:Int) (n:Nat):Turn P w K tg (Itr lo n) [it] it (fun i h=>IsRangeIter h it (lo+(i:Nat)*1) ((n:Int) - (i:Nat)) 1) where
 mem:=by simp
 obj:=fun i h st b hb=>by
  have e:b=it:=by simpa using hb
  subst e
  exact ⟨_,st,fun v z=>by
   have z':Data.fields _=Data.cell v:=z
   cases z'⟩
 keep:=fun i h h' st k=>k it (by simp) _ st
 item:=by
  intro X hP hw hK hc i pins s σ H E I hf st hg
  subst hP hw hK
  obtain ⟨f0,f1,f2,f3,f4,f5⟩:=hf it (by simp)
  have W:=Walks.range (prog:=X.prog) (w:=X.w) (I.ok.hd hc) it lo 1 n
  refine W.item i s _ _ hg st fun v h' tk hv st' kk=>?_
  obtain ⟨t,rfl⟩:=hv
  have I1:Inv X pins σ H { s with heap:=h',toks:=tk }:=I.turned (fun b o hb e=>kk b o (by simpa using hb) e) f0 f1 f3 f4 f5
  refine ⟨_,rfl,uU (s:={ s with heap:=h',toks:=tk }) (n := "range_iterator") st' rfl rfl (by decide) ⟨.int (lo+i),H,I1,⟨t,?_⟩,⟨rfl,rfl⟩,st',fun b hb=>(hf b hb).1⟩⟩
  rw [Int.mul_one]
 done:=by
  intro X hP hw hK hc i pins s σ H E I hf st hg
  subst hP hw hK
  obtain ⟨f0,f1,f2,f3,f4,f5⟩:=hf it (by simp)
  exact wpAny_pyNext_range_end (I.ok.hd hc) st (by have:n<=i:=hg; omega) fun h' eb=>⟨rfl,I.turned (t':=s.toks) (fun b o hb e=>eb b o hb e) f0 f1 f3 f4 f5⟩
 self:=fun _ _ _ _ _ st h=>wpAny_pyIter_rangeiter st h
section
variable {X:Cx} {tg:Expr}
def aB8 (K:PySem.W.Frag) (tl:TE):TI:=fun σ H R=>tl σ H fun x H1=>∃ a,x=.ref a/\(∃ xs,SqL K H1 a xs)/\R (Itl K a) H1
def aCL (K:PySem.W.Frag) (tl:TE):TI:=fun σ H R=>tl σ H fun x H1=>∃ a,x=.ref a/\(∃ xs,SqT K H1 a xs)/\R (Itt K a) H1
theorem eX {l:Expr} {tl:TE} (hl:PE X l tl):PI X tg l (aB8 X.K tl):=by
 intro pins s σ H R I h
 refine thn (hl pins s σ H _ I h) fun v s1 hx9=>?_
 obtain ⟨x,H1,I1,r1,q1⟩:=hx9
 obtain ⟨a,e,⟨xs,hq⟩,q⟩:=q1
 subst e
 cases r1
 obtain ⟨its,rv,p,hz⟩:=I1.list hq
 refine wpAny_pyIter_list p.isList ?_
 refine ⟨s1.heap.objs.size,[s1.heap.objs.size],_,_,H1,rfl,I1.kept (t':=s1.toks) fun b o e=>Qc _ e,vZ a _,⟨_,Ql _ rfl,rfl,rfl⟩,fun b hb=>?_,q⟩
 have e:b=s1.heap.objs.size:=by simpa using hb
 subst e
 exact I1.fpOk (Qi _) (I1.hok.fresh (Qi _))
theorem tV {l:Expr} {tl:TE} (hl:PE X l tl):PI X tg l (aCL X.K tl):=by
 intro pins s σ H R I h
 refine thn (hl pins s σ H _ I h) fun v s1 hx9=>?_
 obtain ⟨x,H1,I1,r1,q1⟩:=hx9
 obtain ⟨a,e,⟨xs,hq⟩,q⟩:=q1
 subst e
 cases r1
 obtain ⟨its,rv,p,hz⟩:=I1.tuple hq
 refine wpAny_pyIter_tuple (show s1.heap.IsTuple a its.toArray from p) ?_
 refine ⟨s1.heap.objs.size,[s1.heap.objs.size],_,_,H1,rfl,I1.kept (t':=s1.toks) fun b o e=>Qc _ e,tT a _,⟨_,Ql _ rfl,rfl,rfl⟩,fun b hb=>?_,q⟩
 have e:b=s1.heap.objs.size:=by simpa using hb
 subst e
 exact I1.fpOk (Qi _) (I1.hok.fresh (Qi _))
theorem xL {pins:List (Addr×Obj)} {σ:St} {H:Hp} {s:Shared} {R:It->Hp->Prop} {E:Value->Shared->Prop} {lo hi:Int} {t u v:Tok} {tk:Nat} (I:Inv X pins σ H s) (h1:-(2^62)<=lo) (h2:lo < 2^62) (h3:-(2^62)<=hi) (h4:hi < 2^62)
  (q:R (Itr lo (hi - lo).toNat) H):wpAny (model X.prog X.w) X.A (pyIter (.ref s.heap.objs.size)) (PIE X pins σ tg R) E { s with heap:=s.heap.push { cls:=.type "range",data:=.fields #[.int lo t,.int hi u,.int 1 v] },toks:=tk }:=by
 refine wpAny_pyIter_range (IsRange.new ..) (small_one h1 h2 h3 h4) ?_
 have I1:Inv X pins σ H { s with heap:=s.heap.push { cls:=.type "range",data:=.fields #[.int lo t,.int hi u,.int 1 v] },toks:=tk }:=I.kept fun b o e=>Qc _ e
 refine ⟨(s.heap.push { cls:=.type "range",data:=.fields #[.int lo t,.int hi u,.int 1 v] }).objs.size,[(s.heap.push { cls:=.type "range",data:=.fields #[.int lo t,.int hi u,.int 1 v] }).objs.size],_,_,H,rfl,
  I1.kept (t':=tk) fun b o e=>Qc _ e,tU _ lo (hi - lo).toNat,?_,fun b hb=>?_,q⟩
 ·have e1:lo+((0:Nat):Int)*1=lo:=by simp
  have e2:(((hi - lo).toNat:Nat):Int) - ((0:Nat):Int)=Builtin.Range.rangeSize lo hi 1:=by rw [rangeSize_one]; split <;> omega
  show IsRangeIter _ _ (lo+((0:Nat):Int)*1) ((((hi - lo).toNat:Nat):Int) - ((0:Nat):Int)) 1
  rw [e1,e2]
  exact Ql _ rfl
 ·have e:b=(s.heap.push { cls:=.type "range",data:=.fields #[.int lo t,.int hi u,.int 1 v] }).objs.size:=by simpa using hb
  subst e
  exact I1.fpOk (Qi _) (I1.hok.fresh (Qi _))
def aB9 (ta:TA):TI:=fun σ H R=>ta σ H fun vs H1=>∃ j:Int,vs = [.int j]/\-(2^62)<=j/\j < 2^62/\R (Itr 0 j.toNat) H1
theorem bU {a:Expr} {ta:TA} {p pos:Pos} (hg:Gl X "range") (hm:X.mg "range" = none) (ha:PA X [a] ta) (hs:starEach [a] X.env = [(false,eval a X.env)]:=by rfl):PI X tg (.Call (.Name "range" p) [a] [] pos) (aB9 ta):=by
 intro pins s σ H R I h
 refine Call_ (iY I hg hm boot_range (PyProof.Rows.callWith_type1 (thn (ha pos pins s σ H _ I h) fun us s1 hx9=>?_) hs rfl))
 obtain ⟨vs,H1,I1,r1,q1⟩:=hx9
 obtain ⟨j,e,q1,q2,q⟩:=q1
 subst e
 cases r1 with
 | cons r rr =>
  cases rr
  obtain ⟨t,rfl⟩:=r
  exact call_range_1 (xL I1 (by omega) (by omega) q1 q2 (by simpa using q))
def aCM (wi:TI) (g:TG) (tb:TS):TS:=fun D σ H=>wi σ H fun J H1=>∃ W:Nat->Nat->St->Hp->Prop,(∃ m,W 0 m σ H1)/\∀ i m σ H,W i m σ H ->
 (J.stop i H/\D.nx σ H)∨(J.go i H/\∃ N:St->Hp->Prop,(∀ σ' H',N σ' H'->∃ m',m' < m/\W (i+1) m' σ' H')/\∀ x H',J.yld i H x H'->g x σ H' fun σ2 H2=>tb { D with nx:=N,ct:=N,bk:=D.nx } σ2 H2)
def kD (fp:List Addr) (h:Heap):List (Addr×Obj):=fp.filterMap fun b=>(h.get? b).map fun o=>(b,o)
theorem dP {fp:List Addr} {h:Heap} {b:Addr} {o:Obj} (hb:b∈fp) (e:h.get? b=some o):(b,o)∈kD fp h:=Wv.mpr ⟨b,hb,by rw [e]; rfl⟩
theorem wA {fp:List Addr} {h:Heap} {p:Addr×Obj} (hp:p∈kD fp h):p.1∈fp/\h.get? p.1=some p.2:=by
 obtain ⟨b,hb,e⟩:=Wv.mp hp
 cases q:h.get? b with
 | none=>rw [q] at e; cases e
 | some o =>
  rw [q] at e
  have e':(b,o)=p:=Option.some.inj e
  subst e'
  exact ⟨hb,q⟩
theorem Inv.pinned {pins:List (Addr×Obj)} {σ:St} {H:Hp} {s:Shared} {fp:List Addr} (I:Inv X pins σ H s) (hf:∀ b∈fp,kC X pins H b) (ho:∀ b∈fp,∃ o,s.heap.get? b=some o/\∀ v,o.data≠.cell v):Inv X (pins++kD fp s.heap) σ H s :=
 I.pins_of fun p hp=>(Jq.mp hp).elim (fun z=>I.pin p (Qn _ z)) fun z=>by
  obtain ⟨hb,e⟩:=wA z
  obtain ⟨f0,f1,f2,_⟩:=hf p.1 hb
  obtain ⟨o,e',d⟩:=ho p.1 hb
  rw [e] at e'; cases e'
  exact ⟨e,f0,f1,f2,d⟩
theorem Inv.unpinned {pins pl:List (Addr×Obj)} {σ:St} {H:Hp} {s:Shared} (I:Inv X (pins++pl) σ H s):Inv X pins σ H s:=I.pins_of fun p hp=>I.pin p (Qn _ (Jm _ hp))
theorem cK {iter:Expr} {body:List Stmt} {wi:TI} {g:TG} {tb:TS} {pos:Pos} (hp:PassesOwn (model X.prog X.w) X.A X.env X.xe) (hc:X.calm=true) (hi:PI X tg iter wi) (hg:PG X tg g) (hb:PSs X body tb)
  (hs:∀ x,foldedSetIterable iter X.env x=pure x:=by intro _; rfl):PS X (.For tg iter body [] pos) (aCM wi g tb):=by
 intro pins s σ H D I h
 refine wpAny_For (thn (hi pins s σ H _ I h) fun v s1 h1=>thn h1 fun itv s2 h2=>?_) hs
 obtain ⟨it,fp,tn,J,H2,e,I2,T,st2,f2,W,⟨m0,w0⟩,turn⟩:=h2
 subst e
 -- what stays true of the iterator's objects through the loop
 have stat:∀ {H':Hp},(∀ b∈fp,H' b=none)->∀ b∈fp,kC X pins H' b:=fun hn b hb=>⟨hn b hb,(f2 b hb).2⟩
 refine codeAny_forLoop_any (fun n s'=>∃ i σ' H',Inv X pins σ' H' s'/\tn i s'.heap/\(∀ b∈fp,H' b=none)/\W i n σ' H') ?_ m0 ⟨0,σ,H2,I2,st2,fun b hb=>(f2 b hb).1,w0⟩
 rintro n s3 ⟨i,σ3,H3,I3,st3,fr3,w3⟩
 rcases turn i n σ3 H3 w3 with ⟨stop,qn⟩ | ⟨go,N,hN,step⟩
 ·refine wpAny_passesOwn hp (thn (T.done X rfl rfl rfl hc i pins s3 σ3 H3 X.xe I3 (stat fr3) st3 stop) fun r s4 hx9=>?_)
  obtain ⟨hr,I4⟩:=hx9
  subst hr
  exact wpAny_execs_nil ⟨σ3,H3,I4,qn⟩
 ·refine wpAny_passesOwn hp (thn (T.item X rfl rfl rfl hc i pins s3 σ3 H3 X.xe I3 (stat fr3) st3 go) fun r s4 hx9=>?_)
  obtain ⟨u,hr,h4⟩:=hx9
  subst hr
  refine wpAny_passesOwn hp (thn h4 fun _ s5 hx9=>?_)
  obtain ⟨x,H5,I5,r5,y5,st5,fr5⟩:=hx9
  have I5':=I5.pinned (stat fr5) (T.obj _ _ st5)
  refine wpAny_passesOwn hp (thn (hg _ s5 σ3 H5 x u _ I5' r5 (step x H5 y5)) fun _ s6 hx9=>?_)
  obtain ⟨σ6,H6,I6,q6⟩:=hx9
  refine wpAny_passesOwn hp (thn (hb _ s6 σ6 H6 _ I6 q6) fun f s7 q7=>?_)
  have again:∀ {σ7:St} {H7:Hp},Inv X (pins++kD fp s5.heap) σ7 H7 s7->N σ7 H7->∃ m,m < n/\∃ i σ' H',Inv X pins σ' H' s7/\tn i s7.heap/\(∀ b∈fp,H' b=none)/\W i m σ' H':=fun {σ7 H7} I7 n7=>by
   obtain ⟨m',hm,w7⟩:=hN σ7 H7 n7
   refine ⟨m',hm,i+1,σ7,H7,I7.unpinned,T.keep _ _ _ st5 fun b hb o e=>(I7.pin (b,o) (Qn _ (Qn _ (dP hb e)))).1,fun b hb=>?_,w7⟩
   obtain ⟨o,e,d⟩:=T.obj _ _ st5 b hb
   exact (I7.pin (b,o) (Qn _ (Qn _ (dP hb e)))).2.1
  cases f with
  | next=>obtain ⟨σ7,H7,I7,n7⟩:=q7; exact again I7 n7
  | cont=>obtain ⟨σ7,H7,I7,n7⟩:=q7; exact again I7 n7
  | brk=>obtain ⟨σ7,H7,I7,q7⟩:=q7; exact ⟨σ7,H7,I7.unpinned,q7⟩
  | ret v=>obtain ⟨x7,σ7,H7,I7,r7,q7⟩:=q7; exact ⟨x7,σ7,H7,I7.unpinned,r7,q7⟩
end
theorem eQ {K:PySem.W.Frag} {a:Addr} {xs:List V} {g:TG} {tb:TS} {D:Ends} {σ:St} {H:Hp} (Pv:Nat->St->Hp->Prop) (h0:Pv 0 σ H) (hl:∀ i σ H,i<=xs.length->Pv i σ H->SqL K H a xs)
  (hs:∀ i x σ H,xs[i]?=some x->Pv i σ H->g x σ H fun σ2 H2=>tb { D with nx:=Pv (i+1),ct:=Pv (i+1),bk:=D.nx } σ2 H2) (hd:∀ σ H,Pv xs.length σ H->D.nx σ H) :
  ∃ W:Nat->Nat->St->Hp->Prop,(∃ m,W 0 m σ H)/\∀ i m σ H,W i m σ H ->
   ((Itl K a).stop i H/\D.nx σ H)∨((Itl K a).go i H/\∃ N:St->Hp->Prop,(∀ σ' H',N σ' H'->∃ m',m' < m/\W (i+1) m' σ' H')/\∀ x H',(Itl K a).yld i H x H'->g x σ H' fun σ2 H2=>tb { D with nx:=N,ct:=N,bk:=D.nx } σ2 H2):=by
 refine ⟨fun i m σ H=>m=xs.length - i/\i<=xs.length/\Pv i σ H,⟨xs.length,by simp,Jz _,h0⟩,?_⟩
 rintro i m σ H ⟨rfl,hi,p⟩
 have q:=hl i σ H hi p
 by_cases hlt:i < xs.length
 ·refine .inr ⟨⟨xs,xs[i],q,by simp [hlt]⟩,Pv (i+1),fun σ' H' p'=>⟨xs.length - (i+1),by omega,rfl,hlt,p'⟩,fun x H' y=>?_⟩
  obtain ⟨e,y⟩:=y
  subst e
  exact hs i x σ _ (y xs q) p
 ·have e:i=xs.length:=by omega
  subst e
  exact .inl ⟨⟨xs,q,Qi _⟩,hd σ H p⟩
theorem uV {K:PySem.W.Frag} {a:Addr} {xs:List V} {g:TG} {tb:TS} {D:Ends} {σ:St} {H:Hp} (Pv:Nat->St->Hp->Prop) (h0:Pv 0 σ H) (hl:∀ i σ H,i<=xs.length->Pv i σ H->SqT K H a xs)
  (hs:∀ i x σ H,xs[i]?=some x->Pv i σ H->g x σ H fun σ2 H2=>tb { D with nx:=Pv (i+1),ct:=Pv (i+1),bk:=D.nx } σ2 H2) (hd:∀ σ H,Pv xs.length σ H->D.nx σ H) :
  ∃ W:Nat->Nat->St->Hp->Prop,(∃ m,W 0 m σ H)/\∀ i m σ H,W i m σ H ->
   ((Itt K a).stop i H/\D.nx σ H)∨((Itt K a).go i H/\∃ N:St->Hp->Prop,(∀ σ' H',N σ' H'->∃ m',m' < m/\W (i+1) m' σ' H')/\∀ x H',(Itt K a).yld i H x H'->g x σ H' fun σ2 H2=>tb { D with nx:=N,ct:=N,bk:=D.nx } σ2 H2):=by
 refine ⟨fun i m σ H=>m=xs.length - i/\i<=xs.length/\Pv i σ H,⟨xs.length,by simp,Jz _,h0⟩,?_⟩
 rintro i m σ H ⟨rfl,hi,p⟩
 have q:=hl i σ H hi p
 by_cases hlt:i < xs.length
 ·refine .inr ⟨⟨xs,xs[i],q,by simp [hlt]⟩,Pv (i+1),fun σ' H' p'=>⟨xs.length - (i+1),by omega,rfl,hlt,p'⟩,fun x H' y=>?_⟩
  obtain ⟨e,y⟩:=y
  subst e
  exact hs i x σ _ (y xs q) p
 ·have e:i=xs.length:=by omega
  subst e
  exact .inl ⟨⟨xs,q,Qi _⟩,hd σ H p⟩
theorem eN {lo:Int} {n:Nat} {g:TG} {tb:TS} {D:Ends} {σ:St} {H:Hp} (Pv:Nat->St->Hp->Prop) (h0:Pv 0 σ H)
  (hs:∀ i σ H,i < n->Pv i σ H->g (.int (lo+i)) σ H fun σ2 H2=>tb { D with nx:=Pv (i+1),ct:=Pv (i+1),bk:=D.nx } σ2 H2) (hd:∀ σ H,Pv n σ H->D.nx σ H) :
  ∃ W:Nat->Nat->St->Hp->Prop,(∃ m,W 0 m σ H)/\∀ i m σ H,W i m σ H ->
   ((Itr lo n).stop i H/\D.nx σ H)∨((Itr lo n).go i H/\∃ N:St->Hp->Prop,(∀ σ' H',N σ' H'->∃ m',m' < m/\W (i+1) m' σ' H')/\∀ x H',(Itr lo n).yld i H x H'->g x σ H' fun σ2 H2=>tb { D with nx:=N,ct:=N,bk:=D.nx } σ2 H2):=by
 refine ⟨fun i m σ H=>m=n - i/\i<=n/\Pv i σ H,⟨n,by simp,Jz _,h0⟩,?_⟩
 rintro i m σ H ⟨rfl,hi,p⟩
 by_cases hlt:i < n
 ·refine .inr ⟨hlt,Pv (i+1),fun σ' H' p'=>⟨n - (i+1),by omega,rfl,hlt,p'⟩,fun x H' y=>?_⟩
  obtain ⟨e,y⟩:=y
  subst e y
  exact hs i σ _ hlt p
 ·have e:i=n:=by omega
  subst e
  exact .inl ⟨Qi _,hd σ H p⟩
abbrev R2:=V->V->Hp->VK->Prop
def OpR (X:Cx) (f:Value->Value->Sem Value) (r:R2):Prop :=
 ∀ (pins:List (Addr×Obj)) (s:Shared) (σ:St) (H:Hp) (x y:V) (v u:Value) (Q:VK),Inv X pins σ H s->aQ x v->aQ y u->r x y H Q ->
  wpAny (model X.prog X.w) X.A (f v u) (EP X pins σ Q) X.xe s
def UnR (X:Cx) (f:Value->Sem Value) (r:V->Hp->VK->Prop):Prop :=
 ∀ (pins:List (Addr×Obj)) (s:Shared) (σ:St) (H:Hp) (x:V) (v:Value) (Q:VK),Inv X pins σ H s->aQ x v->r x H Q ->
  wpAny (model X.prog X.w) X.A (f v) (EP X pins σ Q) X.xe s
def dA (X:Cx) (f:Value) (r:List V->Hp->VK->Prop):Prop :=
 ∀ (pins:List (Addr×Obj)) (s:Shared) (σ:St) (H:Hp) (xs:List V) (us:List Value) (Q:VK),Inv X pins σ H s->aO xs us->r xs H Q ->
  wpAny (model X.prog X.w) X.A (call f us) (EP X pins σ Q) X.xe s
def aCN (X:Cx) (r:V->Hp->(Bool->Hp->Prop)->Prop):Prop :=
 ∀ (pins:List (Addr×Obj)) (s:Shared) (σ:St) (H:Hp) (x:V) (v:Value) (Q:Bool->Hp->Prop),Inv X pins σ H s->aQ x v->r x H Q ->
  wpAny (model X.prog X.w) X.A (truthy v) (TP X pins σ Q) X.xe s
def tOp (r:R2) (ta tb:TE):TE:=fun σ H Q=>ta σ H fun x H1=>tb σ H1 fun y H2=>r x y H2 Q
def tUn (r:V->Hp->VK->Prop) (ta:TE):TE:=fun σ H Q=>ta σ H fun x H1=>r x H1 Q
def rI (C:Int->Int->Prop) (g:Int->Int->V):R2:=fun x y H Q=>∃ i j,x=.int i/\y=.int j/\C i j/\Q (g i j) H
def rI0 (g:Int->Int->V):R2:=fun x y H Q=>∃ i j,x=.int i/\y=.int j/\Q (g i j) H
def rU (g:Int->V):V->Hp->VK->Prop:=fun x H Q=>∃ i,x=.int i/\Q (g i) H
section
variable {X:Cx} {a b c:Expr} {ta tb tc:TE} {pos:Pos}
theorem aBr (ha:PE X a ta) (hb:PE X b tb) {pins:List (Addr×Obj)} {s:Shared} {σ:St} {H:Hp} {R:V->V->Hp->Prop} (I:Inv X pins σ H s)
  (h:ta σ H fun x H1=>tb σ H1 fun y H2=>R x y H2) {Q:Value->Shared->Prop} {f:Value->Value->Sem Value}
  (hf:∀ v u s2 x y H2,Inv X pins σ H2 s2->aQ x v->aQ y u->R x y H2->wpAny (model X.prog X.w) X.A (f v u) Q X.xe s2) :
  wpAny (model X.prog X.w) X.A (eval a X.env) (fun v s₁=>wpAny (model X.prog X.w) X.A (eval b X.env) (fun u s₂=>wpAny (model X.prog X.w) X.A (f v u) Q X.xe s₂) X.xe s₁) X.xe s:=by
 refine thn (ha pins s σ H _ I h) fun v s1 hx9=>?_
 obtain ⟨x,H1,I1,r1,q1⟩:=hx9
 refine thn (hb pins s1 σ H1 _ I1 q1) fun u s2 hx9=>?_
 obtain ⟨y,H2,I2,r2,q2⟩:=hx9
 exact hf v u s2 x y H2 I2 r1 r2 q2
theorem aM {op:Operator} {r:R2} (ho:OpR X (binaryOp op) r) (ha:PE X a ta) (hb:PE X b tb):PE X (.BinOp a op b pos) (tOp r ta tb):=by
 intro pins s σ H Q I h
 exact wpAny_BinOp (aBr ha hb I h fun v u s2 x y H2 I2 rx ry q=>ho pins s2 σ H2 x y v u Q I2 rx ry q)
theorem rT {op:UnaryOp} {r:V->Hp->VK->Prop} (ho:UnR X (unaryOp op) r) (ha:PE X a ta):PE X (.UnaryOp op a pos) (tUn r ta):=by
 intro pins s σ H Q I h
 refine UnaryOp_ (thn (ha pins s σ H _ I h) fun v s1 hx9=>?_)
 obtain ⟨x,H1,I1,r1,q1⟩:=hx9
 exact ho pins s1 σ H1 x v Q I1 r1 q1
theorem opI {f:Value->Value->Sem Value} {C:Int->Int->Prop} {g:Int->Int->Int}
  (rule:∀ (i j:Int) (t u:Tok) (s:Shared) (Q:Value->Shared->Prop) (E:Value->Shared->Prop),C i j->Q (.int (g i j) s.toks) { s with toks:=s.toks+1 }->wpAny (model X.prog X.w) X.A (f (.int i t) (.int j u)) Q E s) :
  OpR X f (rI C fun i j=>.int (g i j)):=by
 intro pins s σ H x y v u Q I rx ry h
 obtain ⟨i,j,rfl,rfl,hc,q⟩:=h
 obtain ⟨t,rfl⟩:=rx
 obtain ⟨t',rfl⟩:=ry
 exact rule i j t t' s _ _ hc ⟨.int (g i j),H,I.tok _,⟨_,rfl⟩,q⟩
theorem aCa {f:Value->Value->Sem Value} {g:Int->Int->Int}
  (rule:∀ (i j:Int) (t u:Tok) (s:Shared) (Q:Value->Shared->Prop) (E:Value->Shared->Prop),Q (.int (g i j) s.toks) { s with toks:=s.toks+1 }->wpAny (model X.prog X.w) X.A (f (.int i t) (.int j u)) Q E s) :
  OpR X f (rI0 fun i j=>.int (g i j)):=by
 intro pins s σ H x y v u Q I rx ry h
 obtain ⟨i,j,rfl,rfl,q⟩:=h
 obtain ⟨t,rfl⟩:=rx
 obtain ⟨t',rfl⟩:=ry
 exact rule i j t t' s _ _ ⟨.int (g i j),H,I.tok _,⟨_,rfl⟩,q⟩
theorem aAl {f:Value->Value->Sem Value} {g:Int->Int->Bool}
  (rule:∀ (i j:Int) (t u:Tok) (s:Shared) (Q:Value->Shared->Prop) (E:Value->Shared->Prop),Q (.bool (g i j)) s->wpAny (model X.prog X.w) X.A (f (.int i t) (.int j u)) Q E s) :
  OpR X f (rI0 fun i j=>.bl (g i j)):=by
 intro pins s σ H x y v u Q I rx ry h
 obtain ⟨i,j,rfl,rfl,q⟩:=h
 obtain ⟨t,rfl⟩:=rx
 obtain ⟨t',rfl⟩:=ry
 exact rule i j t t' s _ _ ⟨.bl (g i j),H,I,rfl,q⟩
def aCO (i j:Int):Prop:=0 < j/\j < 1073741824
def aCP (i j:Int):Prop:=0<=j/\j<=1000000/\i.natAbs < 2^64
def aBs (i j:Int):Prop:=(-(2^64) < i/\i < 2^64)∨(-(2^64) < j/\j < 2^64)
theorem aBs.ok {i j:Int} (h:aBs i j):IntMulOk i j:=by
 rcases h with ⟨h1,h2⟩ | ⟨h1,h2⟩
 ·exact .of_left (intBits_le_64 h1 h2)
 ·exact .of_right (intBits_le_64 h1 h2)
theorem bY:OpR X (binaryOp .Add) (rI0 fun i j=>.int (i+j)):=aCa fun _ _ _ _ _ _ _ q=>add_int q
theorem cV:OpR X (binaryOp .Sub) (rI0 fun i j=>.int (i - j)):=aCa fun _ _ _ _ _ _ _ q=>sub_int q
theorem cW:OpR X (binaryOp .Mult) (rI aBs fun i j=>.int (i*j)):=opI fun _ _ _ _ _ _ _ hc q=>mul_int q hc.ok
theorem aAm:OpR X (binaryOp .FloorDiv) (rI aCO fun i j=>.int (i / j)):=opI fun i j _ _ _ _ _ hc q=>by
 have h1:(0:Int) < j:=hc.1
 have h2:j < 1073741824:=hc.2
 exact floordiv_int (by omega) (by rw [Yy i (by omega)]; exact q) (.inl (PyProof.noPylong_small (by omega)))
theorem gO:OpR X (binaryOp .Mod) (rI (fun _ j=>0 < j) fun i j=>.int (i % j)):=opI fun i j _ _ _ _ _ hc q=>by
 have h1:(0:Int) < j:=hc
 exact mod_int' (by omega) (by rw [Int.fmod_eq_emod_of_nonneg i (by omega)]; exact q)
theorem aBt:OpR X (binaryOp .Pow) (rI aCP fun i j=>.int (i^j.toNat)):=opI fun _ _ _ _ _ _ _ hc q=>pow_int_small hc.1 hc.2.1 hc.2.2 q
theorem unI {f:Value->Sem Value} {g:Int->Int}
  (rule:∀ (i:Int) (t:Tok) (s:Shared) (Q:Value->Shared->Prop) (E:Value->Shared->Prop),Q (.int (g i) s.toks) { s with toks:=s.toks+1 }->wpAny (model X.prog X.w) X.A (f (.int i t)) Q E s) :
  UnR X f (rU fun i=>.int (g i)):=by
 intro pins s σ H x v Q I rx h
 obtain ⟨i,rfl,q⟩:=h
 obtain ⟨t,rfl⟩:=rx
 exact rule i t s _ _ ⟨.int (g i),H,I.tok _,⟨_,rfl⟩,q⟩
theorem lX:UnR X (unaryOp .USub) (rU fun i=>.int (-i)):=unI fun _ _ _ _ _ q=>neg_int q
def aCb:V->V->Bool
 | .non,.non=>true | .non,.int _=>true | .int _,.non=>true | .non,.bl _=>true | .bl _,.non=>true | .non,.str _=>true | .str _,.non=>true
 | .int _,.int _=>true | .bl _,.bl _=>true | .str _,.str _=>true | .byt _,.byt _=>true
 | .int _,.str _=>true | .str _,.int _=>true | .bl _,.str _=>true | .str _,.bl _=>true
 | _,_=>false
def rEq:R2:=fun x y H Q=>aCb x y=true/\Q (.bl (decide (x=y))) H
def rNe:R2:=fun x y H Q=>aCb x y=true/\Q (.bl (!decide (x=y))) H
theorem uW {i j:Int}:decide (V.int i=V.int j)=(i==j):=by
 rw [Xx]
 simp
theorem xM {i j:Bool}:decide (V.bl i=V.bl j)=(i==j):=by
 rw [Xx]
 simp
theorem uX {i j:Str}:decide (V.str i=V.str j)=(i==j):=by
 rw [Xx]
 simp
theorem uY {i j:Array UInt8}:decide (V.byt i=V.byt j)=(i.toList==j.toList):=by
 rw [Xx]
 cases i
 cases j
 simp
theorem bG {pins:List (Addr×Obj)} {σ:St} {H:Hp} {s:Shared} {Q:VK} {k k':Bool} (I:Inv X pins σ H s) (q:Q (.bl k) H) (e:k=k'):EP X pins σ Q (.bool k') s:=by
 subst e
 exact ⟨.bl k,H,I,rfl,q⟩
theorem oW:OpR X (compareOp .Eq) rEq:=by
 intro pins s σ H x y v u Q I rx ry h
 obtain ⟨hs,q⟩:=h
 cases x with
 | non =>
  cases rx
  cases y with
  | non=>cases ry; exact PySem.EqNone.eq_none_none (bG I q (by simp))
  | bl j=>cases ry; exact PySem.EqNone.eq_none_bool (bG I q (by simp))
  | int j=>obtain ⟨t',rfl⟩:=ry; exact PySem.EqNone.eq_none_int (bG I q (by simp))
  | str j=>obtain ⟨t',rfl⟩:=ry; exact PySem.EqNone.eq_none_str (bG I q (by simp))
  | _=>exact absurd (show false=true from hs) Qt
 | bl i =>
  cases rx
  cases y with
  | non=>cases ry; exact PySem.EqNone.eq_bool_none (bG I q (by simp))
  | bl j=>cases ry; exact eq_bool (bG I q xM)
  | str j=>obtain ⟨t',rfl⟩:=ry; exact PySem.EqMixed.eq_bool_str (bG I q (by simp))
  | _=>exact absurd (show false=true from hs) Qt
 | int i =>
  obtain ⟨t,rfl⟩:=rx
  cases y with
  | non=>cases ry; exact PySem.EqNone.eq_int_none (bG I q (by simp))
  | int j=>obtain ⟨t',rfl⟩:=ry; exact eq_int (bG I q uW)
  | str j=>obtain ⟨t',rfl⟩:=ry; exact PySem.EqMixed.eq_int_str (bG I q (by simp))
  | _=>exact absurd (show false=true from hs) Qt
 | str i =>
  obtain ⟨t,rfl⟩:=rx
  cases y with
  | non=>cases ry; exact PySem.EqNone.eq_str_none (bG I q (by simp))
  | bl j=>cases ry; exact PySem.EqMixed.eq_str_bool (bG I q (by simp))
  | int j=>obtain ⟨t',rfl⟩:=ry; exact PySem.EqMixed.eq_str_int (bG I q (by simp))
  | str j=>obtain ⟨t',rfl⟩:=ry; exact eq_str (bG I q uX)
  | _=>exact absurd (show false=true from hs) Qt
 | byt i =>
  obtain ⟨t,rfl⟩:=rx
  cases y with
  | byt j=>obtain ⟨t',rfl⟩:=ry; exact PySem.W.eq_bytes (bG I q uY)
  | _=>exact absurd (show false=true from hs) Qt
 | _=>cases y <;> exact absurd (show false=true from hs) Qt
theorem jG:OpR X (compareOp .NotEq) rNe:=by
 intro pins s σ H x y v u Q I rx ry h
 obtain ⟨hs,q⟩:=h
 cases x with
 | non =>
  cases rx
  cases y with
  | non=>cases ry; exact PySem.EqNone.ne_none_none (bG I q (by simp))
  | bl j=>cases ry; exact PySem.EqNone.ne_none_bool (bG I q (by simp))
  | int j=>obtain ⟨t',rfl⟩:=ry; exact PySem.EqNone.ne_none_int (bG I q (by simp))
  | str j=>obtain ⟨t',rfl⟩:=ry; exact PySem.EqNone.ne_none_str (bG I q (by simp))
  | _=>exact absurd (show false=true from hs) Qt
 | bl i =>
  cases rx
  cases y with
  | non=>cases ry; exact PySem.EqNone.ne_bool_none (bG I q (by simp))
  | bl j=>cases ry; exact ne_bool (bG I q (congrArg not xM))
  | str j=>obtain ⟨t',rfl⟩:=ry; exact PySem.EqMixed.ne_bool_str (bG I q (by simp))
  | _=>exact absurd (show false=true from hs) Qt
 | int i =>
  obtain ⟨t,rfl⟩:=rx
  cases y with
  | non=>cases ry; exact PySem.EqNone.ne_int_none (bG I q (by simp))
  | int j=>obtain ⟨t',rfl⟩:=ry; exact ne_int (bG I q (congrArg not uW))
  | str j=>obtain ⟨t',rfl⟩:=ry; exact PySem.EqMixed.ne_int_str (bG I q (by simp))
  | _=>exact absurd (show false=true from hs) Qt
 | str i =>
  obtain ⟨t,rfl⟩:=rx
  cases y with
  | non=>cases ry; exact PySem.EqNone.ne_str_none (bG I q (by simp))
  | bl j=>cases ry; exact PySem.EqMixed.ne_str_bool (bG I q (by simp))
  | int j=>obtain ⟨t',rfl⟩:=ry; exact PySem.EqMixed.ne_str_int (bG I q (by simp))
  | str j=>obtain ⟨t',rfl⟩:=ry; exact ne_str (bG I q (congrArg not uX))
  | _=>exact absurd (show false=true from hs) Qt
 | byt i =>
  obtain ⟨t,rfl⟩:=rx
  cases y with
  | byt j=>obtain ⟨t',rfl⟩:=ry; exact PySem.W.ne_bytes (bG I q (congrArg not uY))
  | _=>exact absurd (show false=true from hs) Qt
 | _=>cases y <;> exact absurd (show false=true from hs) Qt
theorem lY:OpR X (compareOp .Lt) (rI0 fun i j=>.bl (decide (i < j))):=aAl fun _ _ _ _ _ _ _ q=>lt_int q
theorem xN:OpR X (compareOp .LtE) (rI0 fun i j=>.bl (decide (i<=j))):=aAl fun _ _ _ _ _ _ _ q=>le_int q
theorem uZ:OpR X (compareOp .Gt) (rI0 fun i j=>.bl (decide (j < i))):=aAl fun _ _ _ _ _ _ _ q=>gt_int q
theorem aA2:OpR X (compareOp .GtE) (rI0 fun i j=>.bl (decide (j<=i))):=aAl fun _ _ _ _ _ _ _ q=>ge_int q
theorem bC (b:Expr) {op:CmpOp} (h:op≠.In:=by decide) (h2:op≠.NotIn:=by decide):behindInMarks op b=false:=by
 have e1:(op==CmpOp.In)=false:=by cases op <;> first | rfl | exact absurd rfl h
 have e2:(op==CmpOp.NotIn)=false:=by cases op <;> first | rfl | exact absurd rfl h2
 cases b <;> simp [behindInMarks,e1,e2]
theorem jH {op:CmpOp} {r:R2} (ho:OpR X (compareOp op) r) (ha:PE X a ta) (hb:PE X b tb) (hm:behindInMarks op b=false):PE X (.Compare a [op] [b] pos) (tOp r ta tb):=by
 intro pins s σ H Q I h
 exact wpAny_Compare1 (aBr ha hb I h fun v u s2 x y H2 I2 rx ry q=>ho pins s2 σ H2 x y v u Q I2 rx ry q) hm
def aCc (t:TE):TT:=fun σ H Q=>t σ H fun x H'=>∃ k,x=.bl k/\Q k H'
theorem aY {op:CmpOp} {r:R2} (ho:OpR X (compareOp op) r) (ha:PE X a ta) (hb:PE X b tb) (hm:behindInMarks op b=false):PT X (.Compare a [op] [b] pos) (aCc (tOp r ta tb)):=by
 intro pins s σ H Q I h
 refine wpAny_isTrue_Compare1 (thn (ha pins s σ H _ I h) fun v s1 ⟨x,H1,I1,r1,q1⟩=>thn (hb pins s1 σ H1 _ I1 q1) fun u s2 ⟨y,H2,I2,r2,q2⟩ =>
  thn (ho pins s2 σ H2 x y v u _ I2 r1 r2 q2) fun c s3 ⟨z,H3,I3,r3,k,e,q3⟩=>?_) hm
 subst e
 cases r3
 exact wpAny_truthy_bool ⟨H3,I3,q3⟩
def aBu (r r':R2) (ta tb tc:TE):TE:=fun σ H Q=>ta σ H fun x H1=>tb σ H1 fun y H2=>r x y H2 fun z H3=>∃ k,z=.bl k /\
 (if k=true then tc σ H3 fun w' H4=>r' y w' H4 Q else Q (.bl false) H3)
theorem xO {op op':CmpOp} {r r':R2} (ho:OpR X (compareOp op) r) (ho':OpR X (compareOp op') r') (ha:PE X a ta) (hb:PE X b tb) (hc:PE X c tc)
  (hm:lastMarks [op,op'] [b,c]=false:=by with_unfolding_all rfl):PE X (.Compare a [op,op'] [b,c] pos) (aBu r r' ta tb tc):=by
 intro pins s σ H Q I h
 refine Compare_chain (thn (ha pins s σ H _ I h) fun v s1 ⟨x,H1,I1,r1,q1⟩=>chain_link (thn (hb pins s1 σ H1 _ I1 q1) fun u s2 ⟨y,H2,I2,r2,q2⟩ =>
  thn (ho pins s2 σ H2 x y v u _ I2 r1 r2 q2) fun d s3 ⟨z,H3,I3,r3,k,e,q3⟩=>?_)) hm
 subst e
 cases r3
 refine wpAny_truthy_bool ?_
 cases k with
 | false=>exact ite_ff ⟨.bl false,H3,I3,rfl,q3⟩
 | true=>exact ite_tt (chain_last (thn (hc pins s3 σ H3 _ I3 q3) fun w' s4 ⟨z',H4,I4,r4,q4⟩=>ho' pins s4 σ H4 y z' u w' Q I4 r2 r4 q4))
def aCd (K:PySem.W.Frag) (x:V) (H:Hp) (k:Bool):Prop :=
 match x with
 | .non=>k=false
 | .bl b=>k=b
 | .int i=>k=(i !=0)
 | .str y=>y.length<=sizeLine/\k=((y.length:Int) !=0)
 | .byt y=>y.size<=sizeLine/\k=((y.size:Int) !=0)
 | .ref p=>(∃ xs,SqL K H p xs/\k=!xs.isEmpty)∨(∃ xs,SqT K H p xs/\k=!xs.isEmpty)∨∃ kvs,H p=some (.dK kvs)/\k=!kvs.isEmpty
 | _=>False
theorem tW {κ:Type} {kvs:List (κ×V)} {vs:List (κ×Value)} (r:KV kvs vs):(!vs.isEmpty)=!kvs.isEmpty:=by
 cases r <;> rfl
theorem lZ {xs:List V} {its:List Value} (r:aO xs its):(!its.toArray.isEmpty)=!xs.isEmpty:=by
 cases r <;> simp
theorem mB:(sizeLine:Nat) < 2^63:=by rw [sizeLine_eq]; decide
theorem aBv:aCN X (fun x H Q=>∃ k,aCd X.K x H k/\Q k H):=by
 intro pins s σ H x v Q I rx h
 obtain ⟨k,e,q⟩:=h
 have hl:=mB
 have hs:sizeLine=16777216:=sizeLine_eq
 cases x with
 | non =>
  cases rx
  have e':k=false:=e
  subst e'
  exact truthy_none ⟨H,I,q⟩
 | bl b =>
  cases rx
  have e':k=b:=e
  subst e'
  exact wpAny_truthy_bool ⟨H,I,q⟩
 | int i =>
  obtain ⟨t,rfl⟩:=rx
  have e':k=(i !=0):=e
  subst e'
  exact PySem.P.truthy_int ⟨H,I,q⟩
 | str y =>
  obtain ⟨t,rfl⟩:=rx
  obtain ⟨hy,e'⟩:y.length<=sizeLine/\k=((y.length:Int) !=0):=e
  subst e'
  exact PySem.P.truthy_str (by omega) ⟨H,I.tok _,q⟩
 | byt y =>
  obtain ⟨t,rfl⟩:=rx
  obtain ⟨hy,e'⟩:y.size<=sizeLine/\k=((y.size:Int) !=0):=e
  subst e'
  exact PySem.W.truthy_bytes (by omega) ⟨H,I.tok _,q⟩
 | ref p =>
  cases rx
  have e':(∃ xs,SqL X.K H p xs/\k=!xs.isEmpty)∨(∃ xs,SqT X.K H p xs/\k=!xs.isEmpty)∨∃ kvs,H p=some (.dK kvs)/\k=!kvs.isEmpty:=e
  rcases e' with ⟨xs,hx,e'⟩ | ⟨xs,hx,e'⟩ | ⟨kvs,hx,e'⟩
  ·subst e'
   obtain ⟨its,r,pl,hz⟩:=I.list hx
   have hlen:=r.length
   exact wpAny_truthy_list pl.isList (by simp only [Qp]; omega) ⟨H,I.tok _,by rw [lZ r]; exact q⟩
  ·subst e'
   obtain ⟨its,r,pl,hz⟩:=I.tuple hx
   have hlen:=r.length
   exact truthy_tuple pl (by simp only [Qp]; omega) ⟨H,I.tok _,by rw [lZ r]; exact q⟩
  ·subst e'
   obtain ⟨hz,hS,vs,r,m⟩:kvs.length<=sizeLine/\(p==sysModules)=false/\∃ vs,KV kvs vs/\s.heap.DictOf (aP X.prog X.w) p vs:=I.hok p _ hx
   have hlen:kvs.length=vs.length:=Paired.length r
   exact wpAny_truthy_dict hS m (by omega) ⟨H,I.tok _,by rw [tW r]; exact q⟩
 | _=>exact (show False from e).elim
theorem xP (ha:PE X a ta) (he:∀ whole,isTrue a X.env whole=(do let v<-whole; standAt a.pos; holding [v] (truthy v))) :
  PT X a (fun σ H Q=>ta σ H fun x H'=>∃ k,aCd X.K x H' k/\Q k H'):=by
 intro pins s σ H Q I h
 refine isTrue_plain (thn (ha pins s σ H _ I h) fun v s1 hx9=>?_) (he _)
 obtain ⟨x,H1,I1,r1,q1⟩:=hx9
 exact aBv pins s1 σ H1 x v Q I1 r1 q1
theorem eK {x:V} {us:List Value} (r:aO [x] us):∃ u,us = [u]/\aQ x u:=by
 cases r with
 | cons r1 r2=>cases r2; exact ⟨_,rfl,r1⟩
theorem oX {x y:V} {us:List Value} (r:aO [x,y] us):∃ u w',us = [u,w']/\aQ x u/\aQ y w':=by
 cases r with
 | cons r1 r2 =>
  cases r2 with
  | cons r3 r4=>cases r4; exact ⟨_,_,rfl,r1,r3⟩
theorem wB (hc:X.calm=true):dA X (.builtin "max") (fun xs H Q=>∃ i j,xs = [.int i,.int j]/\Q (.int (if j > i then j else i)) H):=by
 intro pins s σ H xs us Q I r h
 obtain ⟨i,j,rfl,q⟩:=h
 obtain ⟨u,w',rfl,⟨t,rfl⟩,⟨t',rfl⟩⟩:=oX r
 refine max_two_ints (I.ok.hd hc) fun h' tk k=>⟨_,H,I.kept k,?_,q⟩
 by_cases hj:j > i
 ·rw [if_pos hj,if_pos hj]; exact ⟨_,rfl⟩
 ·rw [if_neg hj,if_neg hj]; exact ⟨_,rfl⟩
end
structure ObjM (h:Heap) (x dx C:Addr) (mA:Str->Option Value):Prop where
 obj:h.get? x=some (PySem.W.instObj C dx)
 ns:h.Ns1 dx mA
 ne:dx≠x
theorem wC {h:Heap} {dx:Addr} {mA:Str->Option Value} (n:h.Ns1 dx mA):∃ od,h.get? dx=some od/\∀ name,PySem.W.lookIn name od=some (mA name):=by
 obtain ⟨o,es,ep,ho,hd,hk,_,hm⟩:=n
 refine ⟨o,ho,fun name=>?_⟩
 have e:=hm name
 unfold nsFind findBy at e
 rw [<- Array.find?_toList] at e
 unfold PySem.W.lookIn
 rw [hd]
 dsimp only
 split
 ·rename_i y q
  rw [q] at e
  exact congrArg some e
 ·rename_i q
  rw [q] at e
  have a:es.toList.any (·.refKey)=false:=by
   rw [List.any_eq_false]
   intro y hy
   obtain ⟨z,t,hkey⟩:=hk y (Array.mem_toList_iff.mp hy)
   simp [DictEntry.refKey,hkey]
  have a':¬ es.toList.any (·.refKey)=true:=by rw [a]; exact Qt
  rw [if_neg a']
  exact congrArg some e
theorem ObjM.look {h:Heap} {x dx C:Addr} {mA:Str->Option Value} (I:ObjM h x dx C mA):∃ od,PySem.W.InstAt h x (PySem.W.instObj C dx) C (some od)/\∀ name,PySem.W.lookIn name od=some (mA name) :=
 let ⟨od,ho,hl⟩:=wC I.ns
 ⟨od,⟨I.obj,rfl,rfl,ho⟩,hl⟩
section
variable {prog:Program} {w:World} {A:Around} {E:Value->Shared->Prop} {s:Shared} {K:PySem.W.Frag} {x dx C f:Addr} {mA:Str->Option Value} {name:Str} {v:Value}
theorem aAn {expr:Bool} {Q:Value->Shared->Prop} (X:K.In s.heap) (I:ObjM s.heap x dx C mA) (hg:PySem.W.plainGet K C name=true) (hh:PySem.W.hasDictIn K C=true)
  (ha:PySem.W.findIn K (.ref C) name=some none) (hv:mA name=some v) (hv':PySem.W.handedIn v=true) (h:Q v { s with toks:=s.toks+1 }) :
  wpAny (model prog w) A (getAttr (.ref x) name expr) Q E s:=by
 obtain ⟨od,J,hl⟩:=I.look
 exact PySem.W.get_value X J (PySem.W.plainGet_of hg).1 (PySem.W.findObj_own hh ha rfl (by rw [hl,hv])) hv' h
theorem xQ {pl:Sem Bool} {Q:Value×List Value->Shared->Prop} (X:K.In s.heap) (I:ObjM s.heap x dx C mA) (hg:PySem.W.plainGet K C name=true)
  (hf:PySem.W.findIn K (.ref C) name=some (some (.ref f))) (ht:PySem.W.isFn K (.ref f)=true) (hv:mA name=none) (h:Q (.ref f,[.ref x]) s) :
  wpAny (model prog w) A (getMethod (.ref x) name pl) Q E s:=by
 obtain ⟨od,J,hl⟩:=I.look
 exact PySem.W.method_fn X J (PySem.W.plainGet_of hg).1 (PySem.W.plainGet_of hg).2 hf (beq_iff_eq.mp ht) (by show (PySem.W.lookIn name od).map (·.isSome)=some false; rw [hl,hv]; rfl) h
theorem aAo {ns:List Str} {Q:Unit->Shared->Prop} (X:K.In s.heap) (I:ObjM s.heap x dx C mA)
  (hs:PySem.W.findIn K (.ref C) "__setattr__" = some (some (.builtin "object.__setattr__"))) (hp:PySem.W.plainOver K C=true) (ht:PySem.W.takerIn K C name=some none) (hh:PySem.W.hasDictIn K C=true)
  (hw:PySem.Within mA ns) (hsz:ns.length<=sizeLine)
  (h:∀ h',ObjM h' x dx C (fun y=>if y=name then some v else mA y)->Heap.SameBut dx s.heap h'->Q () { s with heap:=h',toks:=s.toks+2 }) :
  wpAny (model prog w) A (setAttr (.ref x) name v) Q E s:=by
 obtain ⟨od,J,hl⟩:=I.look
 refine PySem.W.set_plain X J hs (PySem.W.osa_open (s:={ s with toks:=s.toks+1 }) (r:=none) X J hp ht fun b=>?_)
 obtain ⟨cd,hc,hd'⟩:=PySem.W.any_some hh
 have hx:s.heap.get? x=some ⟨.ref C,some dx,.plain,#[]⟩:=I.obj
 refine wpAny_bind (wpAny_pure (wpAny_bind (wpAny_bind (wpAny_loadPart hx (wpAny_bind (PySem.W.Looks.here (s:={ s with toks:=s.toks+1 }) (PySem.W.looks_clsIn X hc) ?_))))))
 rw [hd']
 refine wpAny_pure (a:=some dx) (wpAny_bind (wpAny_pure (wpAny_bind ?_)))
 refine wpAny_nsSet1 (s:={ s with toks:=s.toks+1 }) I.ns fun h' hn2 hs2=>?_
 obtain ⟨oD,esD,epD,hoD,hdD,hcD⟩:=hn2.count (PySem.Within.cons name v hw)
 refine wpAny_bind (wpAny_lookBehind hoD (by rw [hdD]; exact pastItsLine_dict (Ja hcD (by rw [Qz]; omega))) ?_)
 exact wpAny_pure (h _ ⟨(hs2.2 _ (Ne.symm I.ne)).trans I.obj,hn2,I.ne⟩ hs2)
theorem xR {R:Result->Shared->Prop} {vs:List Value} {kw:List (Str×Value)} (X:K.In s.heap) (hm:PySem.W.makesIn K C=true)
  (hi:PySem.W.findIn K (.ref C) "__init__" = some (some (.ref f))) (hf:PySem.W.typeIn K (.ref f)=some (.type "function"))
  (h:codeAny (model prog w) (A.under (.builtin "type.__call__" ⟨.ref C::vs,kw⟩)) (.call (.ref f) ⟨.ref (s.heap.objs.size+1)::vs,kw⟩) (PySem.W.InitBack (s.heap.objs.size+1) R)
   { s with heap:=(s.heap.push PySem.W.emptyDict).push (PySem.W.instObj C s.heap.objs.size) }) :
  codeAny (model prog w) A (.call (.ref C) ⟨vs,kw⟩) R s:=by
 obtain ⟨hh,g,d,t,os⟩:=s
 exact PySem.W.make_core (PySem.W.makes_of X hm) (PySem.W.looks_findIn X hi) (fun self=>PySem.W.bind_fn X self hf) (.inl rfl) h
end
def gQ (f:Str) (v:V):List (Str×V)->List (Str×V)
 | []=>[(f,v)]
 | (g,x)::r=>if g=f then (g,v)::r else (g,x)::gQ f v r
theorem kS (f g:Str) (v:V):∀ fs:List (Str×V),(gQ f v fs).lookup g=if g=f then some v else fs.lookup g
 | []=>by
  show List.lookup g [(f,v)]=_
  by_cases h:g=f
  ·have hb:(g==f)=true:=beq_iff_eq.mpr h
   simp only [List.lookup,hb,if_pos h]
  ·have hb:(g==f)=false:=beq_eq_false_iff_ne.mpr h
   simp only [List.lookup,hb,if_neg h]
 | (k,x)::r=>by
  have ih:=kS f g v r
  rw [show gQ f v ((k,x)::r)=(if k=f then (k,v)::r else (k,x)::gQ f v r) from rfl]
  by_cases hk:k=f
  ·rw [if_pos hk]
   by_cases h:g=k
   ·have hb:(g==k)=true:=beq_iff_eq.mpr h
    simp only [List.lookup,hb,if_pos (h.trans hk)]
   ·have hb:(g==k)=false:=beq_eq_false_iff_ne.mpr h
    simp only [List.lookup,hb,if_neg (fun e:g=f=>h (e.trans hk.symm))]
  ·rw [if_neg hk]
   by_cases h:g=k
   ·have hb:(g==k)=true:=beq_iff_eq.mpr h
    simp only [List.lookup,hb,if_neg (fun e:g=f=>hk (h.symm.trans e))]
   ·have hb:(g==k)=false:=beq_eq_false_iff_ne.mpr h
    simp only [List.lookup,hb]
    exact ih
theorem kE (f:Str) (v:V):∀ fs:List (Str×V),f∈(gQ f v fs).map (·.1)/\∀ g,g∈fs.map (·.1)->g∈(gQ f v fs).map (·.1)
 | []=>⟨by simp [gQ],fun g h=>by simp at h⟩
 | (k,x)::r=>by
  obtain ⟨i1,i2⟩:=kE f v r
  rw [show gQ f v ((k,x)::r)=(if k=f then (k,v)::r else (k,x)::gQ f v r) from rfl]
  by_cases hk:k=f
  ·rw [if_pos hk]
   subst hk
   exact ⟨by simp,fun g h=>by simpa using h⟩
  ·rw [if_neg hk]
   refine ⟨?_,fun g h=>?_⟩
   ·rw [Qu]
    exact Qq _ i1
   ·rw [Qu] at h ⊢
    rcases Qs.mp h with e | e
    ·exact Qs.mpr (.inl e)
    ·exact Qq _ (i2 g e)
theorem kT (f:Str) (v:V):∀ fs:List (Str×V),(gQ f v fs).length<=fs.length+1
 | []=>by simp [gQ]
 | (k,x)::r=>by
  have ih:=kT f v r
  rw [show gQ f v ((k,x)::r)=(if k=f then (k,v)::r else (k,x)::gQ f v r) from rfl]
  by_cases hk:k=f
  ·rw [if_pos hk,Qz,Qz]; omega
  ·rw [if_neg hk,Qz,Qz]; omega
theorem fZ.some_of {v:V} {o:Option Value} (r:fZ (some v) o):∃ u,o=some u/\aQ v u:=by
 cases o with
 | none=>exact (show False from r).elim
 | some u=>exact ⟨u,rfl,r⟩
theorem fZ.none_of {o:Option Value} (r:fZ none o):o=none:=by
 cases o with
 | none=>rfl
 | some u=>exact (show False from r).elim
theorem wD {v:V} {u:Value} (r:aQ v u):PySem.W.handedIn u=true:=by
 cases v with
 | non=>cases (show u=Value.none from r); rfl
 | bl b=>cases (show u=Value.bool b from r); rfl
 | int i=>obtain ⟨t,e⟩:=(show ∃ t,u=Value.int i t from r); cases e; rfl
 | str x=>obtain ⟨t,e⟩:=(show ∃ t,u=Value.str x t from r); cases e; rfl
 | byt b=>obtain ⟨t,e⟩:=(show ∃ t,u=Value.bytes b t from r); cases e; rfl
 | flt b=>obtain ⟨t,e⟩:=(show ∃ t,u=Value.float b t from r); cases e; rfl
 | ref a=>cases (show u=Value.ref a from r); rfl
 | ty n=>cases (show u=Value.type n from r); rfl
section
variable {P:Program} {w:World} {H H':Hp} {h h':Heap} {a C dx:Addr} {fs fs':List (Str×V)}
theorem qD (hok:HOk P w H h) (e:H a=some (.ins C dx fs)):∃ mA,ObjM h a dx C mA/\(∀ f,fZ (fs.lookup f) (mA f))/\PySem.Within mA (fs.map (·.1))/\fs.length<=1000/\H dx=some (.own a):=by
 obtain ⟨d,z,ne,ob,mA,n,r,q⟩:=(show bB P w H h a (.ins C dx fs) from hok a _ e)
 exact ⟨mA,⟨ob,n,ne⟩,r,q,z,d⟩
end
structure Cls (K:PySem.W.Frag) (C:Addr):Prop where
 pg:PySem.W.plainGet K C Str.empty=true
 hd:PySem.W.hasDictIn K C=true
 po:PySem.W.plainOver K C=true
 sa:PySem.W.findIn K (.ref C) "__setattr__" = some (some (.builtin "object.__setattr__"))
theorem Cls.get {K:PySem.W.Frag} {C:Addr} (c:Cls K C) (f:Str):PySem.W.plainGet K C f=true:=c.pg
def dQ (K:PySem.W.Frag) (C:Addr) (f:Str):Prop:=PySem.W.findIn K (.ref C) f=some none
theorem dQ.taker {K:PySem.W.Frag} {C:Addr} {f:Str} (n:dQ K C f):PySem.W.takerIn K C f=some none:=by
 unfold PySem.W.takerIn
 rw [show PySem.W.findIn K (.ref C) f=some none from n]
 rfl
structure Con (K:PySem.W.Frag) (C:Addr) (f:Str) (v:V) (u:Value):Prop where
 at_:PySem.W.findIn K (.ref C) f=some (some u)
 rel:aQ v u
 get:PySem.W.specialIn K u "__get__" = some none
 cp:PySem.W.copiedNames.contains f=false
structure Meth (K:PySem.W.Frag) (C:Addr) (m:Str) (f:Addr):Prop where
 at_:PySem.W.findIn K (.ref C) m=some (some (.ref f))
 fn:PySem.W.isFn K (.ref f)=true
 kp:PySem.W.keepIn K (.ref f)=true
section
variable {X:Cx} {pins:List (Addr×Obj)} {σ:St} {H:Hp} {s:Shared} {a C dx:Addr} {fs:List (Str×V)} {f:Str} {v:V} {A:Around} {E:Value->Shared->Prop}
theorem mC {b:Bool} {Q:Value->Shared->Prop} (I:Inv X pins σ H s) (e:H a=some (.ins C dx fs)) (c:Cls X.K C) (n:dQ X.K C f) (l:fs.lookup f=some v)
  (h:∀ u s',Inv X pins σ H s'->aQ v u->Q u s'):wpAny (model X.prog X.w) A (getAttr (.ref a) f b) Q E s:=by
 obtain ⟨mA,O,r,_,_,_⟩:=qD I.hok e
 obtain ⟨u,hu,ru⟩:=fZ.some_of (v:=v) (o:=mA f) (by rw [<- l]; exact r f)
 exact aAn I.kIn O (c.get f) c.hd n hu (wD ru) (h u _ (I.tok _) ru)
theorem mD {m:Str} {g:Addr} {pl:Sem Bool} {Q:Value×List Value->Shared->Prop} (I:Inv X pins σ H s) (e:H a=some (.ins C dx fs)) (c:Cls X.K C) (k:Meth X.K C m g) (l:fs.lookup m=none)
  (h:Q (.ref g,[.ref a]) s):wpAny (model X.prog X.w) A (getMethod (.ref a) m pl) Q E s:=by
 obtain ⟨mA,O,r,_,_,_⟩:=qD I.hok e
 have hn:mA m=none:=fZ.none_of (by rw [<- l]; exact r m)
 exact xQ I.kIn O (c.get m) k.at_ k.fn hn h
theorem mE {y:V} {u:Value} {Q:Unit->Shared->Prop} (I:Inv X pins σ H s) (e:H a=some (.ins C dx fs)) (c:Cls X.K C) (n:dQ X.K C f) (hl:fs.length < 1000) (ry:aQ y u)
  (h:∀ s',Inv X pins σ (upd H a (.ins C dx (gQ f y fs))) s'->Q () s'):wpAny (model X.prog X.w) A (setAttr (.ref a) f u) Q E s:=by
 obtain ⟨mA,O,r,wi,_,ho⟩:=qD I.hok e
 have hz:(fs.map (·.1)).length<=sizeLine:=by rw [Qd,sizeLine_eq]; omega
 refine aAo I.kIn O c.sa c.po n.taker c.hd wi hz fun h' O' sb=>h _ ?_
 have hd:∃ o,h'.get? dx=some o:=let ⟨o,_,_,e',_⟩:=O'.ns; ⟨o,e'⟩
 refine I.write (x:=a) (e:=dx) (by rw [e]; exact True.intro) (.inr ho) (fun b q hb z=>(sb.2 b hb).trans z) hd ?_
 refine ⟨by rw [aD O.ne]; exact ho,?_,O.ne,O'.obj,_,O'.ns,fun g=>?_,fun g hg=>?_⟩
 ·have:=kT f y fs; omega
 ·show fZ ((gQ f y fs).lookup g) (if g=f then some u else mA g)
  rw [kS]
  by_cases q:g=f
  ·rw [if_pos q,if_pos q]; exact ry
  ·rw [if_neg q,if_neg q]; exact r g
 ·by_cases q:g=f
  ·rw [q]; exact (kE f y fs).1
  ·refine (kE f y fs).2 g (wi g fun z=>hg ?_)
   show (if g=f then some u else mA g)=none
   rw [if_neg q]; exact z
theorem Inv.made (I:Inv X pins σ H s):Inv X pins σ (upd (upd H s.heap.objs.size (.own (s.heap.objs.size+1))) (s.heap.objs.size+1) (.ins C s.heap.objs.size []))
  { s with heap:=(s.heap.push PySem.W.emptyDict).push (PySem.W.instObj C s.heap.objs.size) }:=by
 have e1:(s.heap.push PySem.W.emptyDict).get? s.heap.objs.size=some PySem.W.emptyDict:=Ql s.heap rfl
 have e2:((s.heap.push PySem.W.emptyDict).push (PySem.W.instObj C s.heap.objs.size)).get? (s.heap.objs.size+1)=some (PySem.W.instObj C s.heap.objs.size):=by
  have:=Ql (s.heap.push PySem.W.emptyDict) (o:=PySem.W.instObj C s.heap.objs.size) rfl
  rwa [Xa] at this
 have e3:(s.heap.push PySem.W.emptyDict).Ns s.heap.objs.size (fun _=>none):=⟨PySem.W.emptyDict,#[],_,e1,rfl,(fun e he=>absurd he (by simp)),fun _=>rfl⟩
 have I1:=I.laid (a:=s.heap.objs.size) (o:=.own (s.heap.objs.size+1)) (h':=s.heap.push PySem.W.emptyDict) (t':=s.toks) (fun b u q=>Qc _ q) (Qi _) ⟨_,e1⟩
 refine I1.laid (a:=s.heap.objs.size+1) (o:=.ins C s.heap.objs.size []) (t':=s.toks) (fun b u q=>Qc _ q) (Nat.le_of_eq (Xa _ _)) ?_
 have ne:s.heap.objs.size≠s.heap.objs.size+1:=Jd (Zv _)
 refine ⟨by rw [aD ne,aA],Jz _,ne,e2,fun _=>none,(Heap.Ns1.of_empty e3).at fun o q=>Qc _ q,fun _=>True.intro,fun y hy=>absurd rfl hy⟩
theorem aAp {prog:Program} {w:World} {env:Env} {e:Expr} {f:Str} {pos:Pos} {s:Shared} {Q:Value->Shared->Prop} (hb:attributeBase e f env (eval e env)=eval e env)
  (h:wpAny (model prog w) A (eval e env) (fun o s₁=>wpAny (model prog w) A (getAttr o f true) Q E s₁) E s):wpAny (model prog w) A (eval (.Attribute e f pos) env) Q E s :=
 Attribute_any_ h (by rw [arm_eval_Attribute,hb])
end
def aCQ (K:PySem.W.Frag) (ta:TE) (f:Str):TE:=fun σ H Q=>ta σ H fun x H1=>∃ a C dx fs v,x=.ref a/\H1 a=some (.ins C dx fs)/\Cls K C/\dQ K C f/\fs.lookup f=some v/\Q v H1
def aCR (K:PySem.W.Frag) (ta tv:TE) (f:Str):TS:=fun D σ H=>tv σ H fun y H1=>ta σ H1 fun x H2=>∃ a C dx fs,x=.ref a/\H2 a=some (.ins C dx fs)/\Cls K C/\dQ K C f/\fs.length < 1000 /\
 D.nx σ (upd H2 a (.ins C dx (gQ f y fs)))
def aCe (X:Cx) (op:Operator) (rd:V->V->Hp->VK->Prop):Prop :=
 ∀ (pins:List (Addr×Obj)) (s:Shared) (σ:St) (H:Hp) (x y:V) (u v:Value) (Q:VK),Inv X pins σ H s->aQ x u->aQ y v->rd x y H Q->wpAny (model X.prog X.w) X.A (inplaceOp op u v) (EP X pins σ Q) X.xe s
def aAq (K:PySem.W.Frag) (ta tv:TE) (rd:V->V->Hp->VK->Prop) (f:Str):TS:=fun D σ H=>ta σ H fun x H1=>∃ a C dx fs v,x=.ref a/\H1 a=some (.ins C dx fs)/\Cls K C/\dQ K C f/\fs.lookup f=some v /\
 tv σ H1 fun y H2=>rd v y H2 fun z H3=>∃ dx' fs',H3 a=some (.ins C dx' fs')/\fs'.length < 1000/\D.nx σ (upd H3 a (.ins C dx' (gQ f z fs')))
section
variable {X:Cx} {o e value:Expr} {f:Str} {pos pos' tpos:Pos} {ta tv:TE}
theorem bZ (he:PE X e ta) (hb:attributeBase e f X.env (eval e X.env)=eval e X.env):PE X (.Attribute e f pos) (aCQ X.K ta f):=by
 intro pins s σ H Q I h
 refine aAp hb (thn (he pins s σ H _ I h) fun u s1 hx9=>?_)
 obtain ⟨x,H1,I1,rx,a,C,dx,fs,v,ex,ea,c,n,l,q⟩:=hx9
 subst ex
 obtain rfl:u=Value.ref a:=rx
 exact mC I1 ea c n l fun u' s2 I2 ru=>⟨v,H1,I2,ru,q⟩
theorem jA (ha:PE X o ta) (hv:PE X value tv) (hs:swapsWith value (some (.Attribute o f pos')) pos.line X.env=pure false):PS X (.Assign [.Attribute o f pos'] value pos) (aCR X.K ta tv f):=by
 intro pins s σ H D I h
 refine plainObj_wpAny_Assign_Attribute (thn (hv pins s σ H _ I h) fun u s1 ⟨y,H1,I1,ry,q⟩=>thn (ha pins s1 σ H1 _ I1 q) fun ov s2 hx9=>?_) hs
 obtain ⟨x,H2,I2,rx,a,C,dx,fs,ex,ea,c,n,l,q2⟩:=hx9
 subst ex
 obtain rfl:ov=Value.ref a:=rx
 exact mE I2 ea c n l ry fun s3 I3=>⟨σ,_,I3,q2⟩
theorem kF {op:Operator} {rd:V->V->Hp->VK->Prop} (ha:PE X o ta) (hv:PE X value tv) (hop:aCe X op rd):PS X (.AugAssign (.Attribute o f tpos) op value pos) (aAq X.K ta tv rd f):=by
 intro pins s σ H D I h
 refine wpAny_AugAssign_AttributeAny (thn (ha pins s σ H _ I h) fun ov s1 hx9=>?_)
 obtain ⟨x,H1,I1,rx,a,C,dx,fs,v,ex,ea,c,n,l,q⟩:=hx9
 subst ex
 obtain rfl:ov=Value.ref a:=rx
 refine mC I1 ea c n l fun u s2 I2 ru=>thn (hv pins s2 σ H1 _ I2 q) fun w3 s3 ⟨y,H2,I3,ry,q3⟩=>thn (hop pins s3 σ H2 v y u w3 _ I3 ru ry q3) fun w4 s4 hx9=>?_
 obtain ⟨z,H3,I4,rz,dx',fs',ea',l',q4⟩:=hx9
 exact mE I4 ea' c n l' rz fun s5 I5=>⟨σ,_,I5,q4⟩
def aCS:V->V->Hp->VK->Prop:=fun x y H Q=>∃ i j,x=.int i/\y=.int j/\Q (.int (i+j)) H
theorem tX:aCe X .Add aCS:=by
 rintro pins s σ H x y u v Q I rx ry ⟨i,j,rfl,rfl,q⟩
 obtain ⟨t,rfl⟩:=(show ∃ t,u=Value.int i t from rx)
 obtain ⟨t',rfl⟩:=(show ∃ t',v=Value.int j t' from ry)
 exact PyProof.Rows.iadd_int ⟨.int (i+j),H,I.tok _,⟨_,rfl⟩,q⟩
end
section
variable {X:Cx} {pins:List (Addr×Obj)} {σ:St} {H:Hp} {s:Shared} {A:Around} {E:Value->Shared->Prop} {Q:Value->Shared->Prop} {c:Value} {b:Bool}
inductive TyOf (K:PySem.W.Frag) (H:Hp):V->Value->Prop where
 | non:TyOf K H .non (.type "NoneType")
 | bl (x:Bool):TyOf K H (.bl x) (.type "bool")
 | int (i:Int):TyOf K H (.int i) (.type "int")
 | str (x:Str):TyOf K H (.str x) (.type "str")
 | flt (x:UInt64):TyOf K H (.flt x) (.type "float")
 | lst {a:Addr} {xs:List V} (e:H a=some (.lst xs)):TyOf K H (.ref a) (.type "list")
 | frz {a:Addr} {o:Obj} {xs:List V} (e:H a=some (.frz o (.lst xs))):TyOf K H (.ref a) (.type "list")
 | tup {a:Addr} {xs:List V} (e:H a=some (.tup xs)):TyOf K H (.ref a) (.type "tuple")
 | dK {a:Addr} {kvs:List (Key×V)} (e:H a=some (.dK kvs)):TyOf K H (.ref a) (.type "dict")
 | dT {a:Addr} {kvs:List (List Key×V)} (e:H a=some (.dT kvs)):TyOf K H (.ref a) (.type "dict")
 | ins {a C dx:Addr} {fs:List (Str×V)} (e:H a=some (.ins C dx fs)) (cl:Cls K C) (ha:PySem.W.findIn K (.ref C) "__class__" = some (some (.builtin "object.__class__")))
   (hn:PySem.W.specialIn K (.builtin "object.__class__") "__get__" = some (some (.builtin "getset_descriptor.__get__"))) (htk:PySem.W.takesIn K (.builtin "object.__class__")=some true)
   (hm:PySem.W.mroIn K C (.type "object")=some true):TyOf K H (.ref a) (.ref C)
end
structure Room (k:Nat) (A:Around):Prop where
 hd:A.handled=none
 dp:A.depth+3*k+5 < recursionLimit
 un:A.units+16*k+200 < cLine
 gd:A.guards=some []
theorem Room.mono {j k:Nat} {A:Around} (r:Room k A) (h:j<=k):Room j A:=⟨r.hd,by have:=r.dp; omega,by have:=r.un; omega,r.gd⟩
theorem Room.deeper {k:Nat} {A:Around} (r:Room (k+1) A) (env:Env):Room k (A.deeper env) :=
 ⟨r.hd,by have:=r.dp; show A.depth+1+3*k+5 < _; omega,by have:=r.un; show A.units+3+16*k+200 < _; omega,r.gd⟩
theorem Room.in1 {k:Nat} {A:Around} (r:Room (k+1) A):Room k A.in1 :=
 ⟨r.hd,by have:=r.dp; show A.depth+3*k+5 < _; omega,by have:=r.un; show A.units+1+16*k+200 < _; omega,r.gd⟩
theorem tY {A:Around} {C:Addr} {us:List Value} {kw:List (Str×Value)}:(A.under (.builtin "type.__call__" ⟨.ref C::us,kw⟩)).depth=A.depth+1:=by
 first | rfl | simp [Around.under,Code.weight,Code.isCreation,Code.isGuard,Code.isCaller,Code.frames,Code.isFrame,guardIds]
theorem tZ {A:Around} {C:Addr} {us:List Value} {kw:List (Str×Value)}:(A.under (.builtin "type.__call__" ⟨.ref C::us,kw⟩)).units=A.units+1:=by
 first | rfl | simp [Around.under,Code.cUnits,Code.frames,Code.isFrame]
theorem rV {A:Around} {C:Addr} {us:List Value} {kw:List (Str×Value)}:(A.under (.builtin "type.__call__" ⟨.ref C::us,kw⟩)).guards=A.guards:=by
 first | rfl | simp [Around.under,Code.guards,Code.isGuard,pushGuards,guardIds]
theorem Room.make {k:Nat} {A:Around} (r:Room (k+1) A) (C:Addr) (us:List Value) (kw:List (Str×Value)):Room k (A.under (.builtin "type.__call__" ⟨.ref C::us,kw⟩)) :=
 ⟨r.hd,by have:=r.dp; rw [tY]; omega,by have:=r.un; rw [tZ]; omega,by rw [rV]; exact r.gd⟩
theorem Room.depth {k:Nat} {A:Around} (r:Room k A):A.depth < recursionLimit:=by have:=r.dp; omega
theorem Room.units {k:Nat} {A:Around} (r:Room k A):A.units+64 < cLine:=by have:=r.un; omega
abbrev wE:TA:=fun _ H Q=>Q [] H
abbrev rW (ta:TE) (tr:TA):TA:=fun σ H Q=>ta σ H fun x H1=>tr σ H1 fun xs H2=>Q (x::xs) H2
section
variable {X:Cx} {e:Expr} {es:List Expr} {te:TE} {t:TA} {pos:Pos}
theorem aE:PA X [] wE:=fun _ _ _ _ H Q I h=>Calls.spliced_nil ⟨[],H,I,.nil,h⟩
theorem aB (ha:PE X e te) (hr:PA X es t) (hs:starEach (e::es) X.env=(false,eval e X.env)::starEach es X.env:=by rfl):PA X (e::es) (rW te t):=by
 intro pos pins s σ H Q I h
 rw [hs]
 show wpAny _ _ (spliced ((false,eval e X.env)::backTo pos (starEach es X.env))) _ _ s
 refine Calls.spliced_cons (thn (ha pins s σ H _ I h) fun u s1 hx9=>?_)
 obtain ⟨x,H1,I1,r1,q1⟩:=hx9
 refine thn (hr pos pins s1 σ H1 _ I1 q1) fun us s2 hx9=>?_
 obtain ⟨xs,H2,I2,r2,q2⟩:=hx9
 exact ⟨x::xs,H2,I2,.cons r1 r2,q2⟩
def aCT (t:TA):TE:=fun σ H Q=>t σ H fun xs H1=>xs.length<=sizeLine/\∀ p,H1 p=none->Q (.ref p) (upd H1 p (.tup xs))
def aCU (t:TA):TE:=fun σ H Q=>t σ H fun xs H1=>xs.length<=sizeLine/\∀ p,H1 p=none->Q (.ref p) (upd H1 p (.lst xs))
theorem cX {x1} (h:PA X es t):PE X (.Tuple es x1 pos) (aCT t):=by
 intro pins s σ H Q I hq
 refine wpAny_Tuple_spliced (thn (h pos pins s σ H _ I hq) fun us s1 ⟨xs,H1,I1,r,z,q⟩=>⟨by rw [<- r.length]; exact z,?_⟩)
 have hf:H1 s1.heap.objs.size=none:=I1.hok.fresh (Qi _)
 refine ⟨.ref s1.heap.objs.size,upd H1 s1.heap.objs.size (.tup xs),I1.laid (t':=s1.toks) (fun b u e=>Qc _ e) (Qi _) ?_,rfl,q _ hf⟩
 exact ⟨z,us,0,r,Ql _ rfl⟩
theorem mF (h:PA X es t):PE X (.List es pos) (aCU t):=by
 intro pins s σ H Q I hq
 refine wpAny_List_spliced (thn (h pos pins s σ H _ I hq) fun us s1 ⟨xs,H1,I1,r,z,q⟩=>⟨by rw [<- r.length]; exact z,?_⟩)
 have hf:H1 s1.heap.objs.size=none:=I1.hok.fresh (Qi _)
 refine ⟨.ref s1.heap.objs.size,upd H1 s1.heap.objs.size (.lst xs),I1.laid (t':=s1.toks) (fun b u e=>Qc _ e) (Qi _) ?_,rfl,q _ hf⟩
 exact ⟨z,us,0,r,Ql _ rfl⟩
end
abbrev Sp:=List V->Hp->VK->XK->Prop
abbrev CXT:=List Env->Hp->Shared->XK->Value->Shared->Prop
structure Env0 (P:Program) (w:World) (K:PySem.W.Frag) (mg:Str->Option Value) (base:Heap) (A:Around) (outer:List Env) (s:Shared) (H:Hp):Prop where
 frames:A.frames=some outer
 mod:Mod K mg base
 bs:∀ b o,base.get? b=some o->s.heap.get? b=some o/\H b=none
 bsz:base.objs.size<=s.heap.objs.size
 funs:s.heap.FunFrames base outer
 frf:∀ b∈frs outer,H b=none
 hok:HOk P w H s.heap
 bare:AllBare s.gens
def CE (outer:List Env) (P:Program) (w:World) (H:Hp) (s:Shared) (Q:VK) (u:Value) (s':Shared):Prop :=
 ∃ v H',s'.os=s.os/\AllBare s'.gens/\Un (frs outer) [] H H' s.heap s'.heap/\HOk P w H' s'.heap/\aQ v u/\Q v H'
def CR (CX:CXT) (outer:List Env) (P:Program) (w:World) (H:Hp) (s:Shared) (Q:VK) (E:XK) (r:Result) (s':Shared):Prop :=
 match r with
 | .ok (.ret u)=>CE outer P w H s Q u s'
 | .ok _=>False
 | .error e=>CX outer H s E e s'
structure FnOk (P:Program) (w:World) (K:PySem.W.Frag) (mg:Str->Option Value) (base:Heap) (CX:CXT) (k:Nat) (f:Addr) (fd:FuncData) (ps:List Str) (sp:Sp):Prop where
 len:∀ vs H Q E,sp vs H Q E->vs.length=ps.length
 run:∀ (A:Around) (outer:List Env) (s:Shared) (H:Hp) (args:Args) (us:List Value) (vs:List V) (Q:VK) (E:XK),Room k A->Env0 P w K mg base A outer s H->BindsTo s fd args (ps.zip us)->aO vs us->sp vs H Q E ->
  codeAny (model P w) A (.call (.ref f) args) (CR CX outer P w H s Q E) s
theorem FnOk.mono {P:Program} {w:World} {K:PySem.W.Frag} {mg:Str->Option Value} {base:Heap} {CX:CXT} {j k:Nat} {f:Addr} {fd:FuncData} {ps:List Str} {sp:Sp} (F:FnOk P w K mg base CX j f fd ps sp) (h:j<=k) :
  FnOk P w K mg base CX k f fd ps sp:=⟨F.len,fun A outer s H args us vs Q E hr=>F.run A outer s H args us vs Q E (hr.mono h)⟩
theorem FnOk.imp {P:Program} {w:World} {K:PySem.W.Frag} {mg:Str->Option Value} {base:Heap} {CX:CXT} {k:Nat} {f:Addr} {fd:FuncData} {ps:List Str} {sp sp':Sp} (F:FnOk P w K mg base CX k f fd ps sp)
  (h:∀ vs H Q E,sp' vs H Q E->sp vs H Q E):FnOk P w K mg base CX k f fd ps sp' :=
 ⟨fun vs H Q E q=>F.len vs H Q E (h _ _ _ _ q),fun A outer s H args us vs Q E hr he hb hv hs=>F.run A outer s H args us vs Q E hr he hb hv (h _ _ _ _ hs)⟩
theorem Env0.make {P:Program} {w:World} {K:PySem.W.Frag} {mg:Str->Option Value} {base:Heap} {A:Around} {outer:List Env} {s:Shared} {H:Hp} (e:Env0 P w K mg base A outer s H) (C:Addr) (us:List Value) (kw:List (Str×Value)) :
  Env0 P w K mg base (A.under (.builtin "type.__call__" ⟨.ref C::us,kw⟩)) outer s H:=⟨by first | exact e.frames | (simpa [Around.under,Code.envs,Code.isFrame,pushEnvs] using e.frames),e.mod,e.bs,e.bsz,e.funs,e.frf,e.hok,e.bare⟩
theorem Env0.in1 {P:Program} {w:World} {K:PySem.W.Frag} {mg:Str->Option Value} {base:Heap} {A:Around} {outer:List Env} {s:Shared} {H:Hp} (e:Env0 P w K mg base A outer s H) :
  Env0 P w K mg base A.in1 outer s H:=⟨e.frames,e.mod,e.bs,e.bsz,e.funs,e.frf,e.hok,e.bare⟩
section
variable {X:Cx} {pins:List (Addr×Obj)} {σ:St} {H:Hp} {s s':Shared}
theorem Inv.env0 (I:Inv X pins σ H s):Env0 X.prog X.w X.K X.mg X.base X.A X.stack s H :=
 ⟨I.ok.frames,I.ok.mod,I.bs,Ja I.ok.bsz I.sz,I.stack,I.stkFree,I.hok,I.bare⟩
theorem Inv.after {Q:VK} {u:Value} (I:Inv X pins σ H s) (h:CE X.stack X.prog X.w H s Q u s'):EP X pins σ Q u s':=by
 obtain ⟨v,H',os,bare,un,hok,r,q⟩:=h
 obtain ⟨hh,g,d,t,os'⟩:=s'
 obtain rfl:os'=s.os:=os
 exact ⟨v,H',I.call (h':=hh) (g':=g) (d':=d) (t':=t) (ch:=[]) un hok bare (fun b z=>absurd z (by simp)),r,q⟩
end
def aA3 (sp:Sp) (dvs:List V) (E:XK) (t:TA):TE:=fun σ H Q=>t σ H fun vs H1=>sp (vs++dvs) H1 Q E
def xS (C:Addr) (m:Str) (sp:Sp) (dvs:List V) (E:XK) (ta:TE) (t:TA):TE:=fun σ H Q=>ta σ H fun x H1=>∃ a dx fs,x=.ref a/\H1 a=some (.ins C dx fs)/\fs.lookup m=none /\
 t σ H1 fun vs H2=>sp (x::(vs++dvs)) H2 Q E
def aCf (C:Addr) (sp:Sp) (dvs:List V) (E:XK) (t:TA):TE:=fun σ H Q=>t σ H fun vs H1=>∀ x dx,H1 x=none->H1 dx=none->dx≠x ->
 sp (.ref x::(vs++dvs)) (upd (upd H1 dx (.own x)) x (.ins C dx [])) (fun v H2=>v=.non/\Q (.ref x) H2) E
def gR (K:PySem.W.Frag) (fd:FuncData) (ps:List Str) (ds:List Value):Prop :=
 ∀ (s:Shared) (us:List Value),K.In s.heap->(us++ds).length=ps.length->BindsTo s fd ⟨us,[]⟩ (ps.zip (us++ds))
theorem gR.all {K:PySem.W.Frag} {fd:FuncData} {ps:List Str} (h:∀ us:List Value,us.length=ps.length->bindArgs fd ⟨us,[]⟩=pure (ps.zip us)):gR K fd ps []:=fun s us _ hl=>by
 rw [Ya] at hl ⊢
 exact .of_eq (h us hl)
def jB (CX:CXT) (X:Cx) (E:XK):Prop:=∀ (pins:List (Addr×Obj)) (σ:St) (H:Hp) (s:Shared) (e:Value) (s':Shared),Inv X pins σ H s->CX X.stack H s E e s'->X.xe e s'
section
variable {X:Cx} {CX:CXT} {k:Nat} {f C:Addr} {fd:FuncData} {ps:List Str} {sp:Sp} {dvs:List V} {ds:List Value} {E:XK} {x m:Str} {p pos apos:Pos} {e o:Expr} {es:List Expr} {ta:TE} {t:TA}
theorem uA {pins:List (Addr×Obj)} {σ:St} {H:Hp} {s:Shared} {Q:VK} {us:List Value} {vs:List V} (F:FnOk X.prog X.w X.K X.mg X.base CX k f fd ps sp) (hr:Room k X.A) (hb:gR X.K fd ps ds) (hd:aO dvs ds) (hx:jB CX X E)
  (I:Inv X pins σ H s) (r:aO vs us) (h:sp (vs++dvs) H Q E):wpAny (model X.prog X.w) X.A (call (.ref f) us) (EP X pins σ Q) X.xe s:=by
 have r2:aO (vs++dvs) (us++ds):=r.append hd
 have hl:(us++ds).length=ps.length:=by rw [<- r2.length]; exact F.len _ _ _ _ h
 refine wpAny_call (codeAny_mono (F.run X.A X.stack s H ⟨us,[]⟩ (us++ds) (vs++dvs) Q E hr I.env0 (hb s us I.kIn hl) r2 h) fun r s' hq=>?_)
 cases r with
 | error e=>exact hx pins σ H s e s' I hq
 | ok fl =>
  cases fl with
  | ret u=>exact I.after hq
  | next=>exact False.elim hq
  | brk=>exact False.elim hq
  | cont=>exact False.elim hq
theorem aAr (F:FnOk X.prog X.w X.K X.mg X.base CX k f fd ps sp) (hr:Room k X.A) (hg:Gl X x) (hm:X.mg x=some (.ref f)) (hk:PySem.W.keepIn X.K (.ref f)=true) (hb:gR X.K fd ps ds) (hd:aO dvs ds) (hx:jB CX X E)
  (ha:PA X (e::es) t) (hdb:(x==("__debug__" : Str))=false:=by decide) (he:starEach (e::es) X.env=(false,eval e X.env)::starEach es X.env:=by rfl) (hpl:(backTo pos (starEach es X.env)).any (·.1)=false:=by rfl) :
  PE X (.Call (.Name x p) (e::es) [] pos) (aA3 sp dvs E t):=by
 intro pins s σ H Q I h
 refine wpAny_Call_Name_kw (pY I hg hm ?_ hdb)
 refine PySem.W.callWith_K (h₀:=X.base) I.ok.mod.kin hk (thn (ha pos pins s σ H _ I h) fun us s1 ⟨vs,H1,I1,r,q⟩=>⟨I1.kIn,?_⟩) he hpl
 exact uA F hr hb hd hx I1 r q
theorem bN {pl:Sem Bool} (he:PE X o ta) (c:Cls X.K C) (hm:Meth X.K C m f) (F:FnOk X.prog X.w X.K X.mg X.base CX k f fd ps sp) (hr:Room k X.A) (hb:gR X.K fd ps ds) (hd:aO dvs ds) (hx:jB CX X E) (ha:PA X (e::es) t)
  (hst:starEach (e::es) X.env=(false,eval e X.env)::starEach es X.env:=by rfl) (hpl:(backTo pos (starEach es X.env)).any (·.1)=false:=by rfl)
  (ht:eval (.Call (.Attribute o m apos) (e::es) [] pos) X.env=(do
   let ov<-eval o X.env
   standAt apos.atName
   let (f,first)<-holding [ov] (getMethod ov m pl)
   callWith pos f first (backTo pos (starEach (e::es) X.env)) (backToKw pos (keywordEach [] X.env))):=by rfl) :
  PE X (.Call (.Attribute o m apos) (e::es) [] pos) (xS C m sp dvs E ta t):=by
 intro pins s σ H Q I h
 refine PySem.W.methodCall_KW (pl:=pl) (thn (he pins s σ H _ I h) fun u s1 hx9=>?_) ht
 obtain ⟨x,H1,I1,rx,a,dx,fs,ex,ea,l,q⟩:=hx9
 subst ex
 obtain rfl:u=Value.ref a:=rx
 refine mD I1 ea c hm l ?_
 refine PySem.W.callWith_K (first:=[.ref a]) (h₀:=X.base) I.ok.mod.kin hm.kp (thn (ha pos pins s1 σ H1 _ I1 q) fun us s2 ⟨vs,H2,I2,r,q2⟩=>⟨I2.kIn,?_⟩) hst hpl
 exact uA (us:=.ref a::us) (vs:=.ref a::vs) F hr hb hd hx I2 (.cons rfl r) q2
theorem bK {pl:Sem Bool} (he:PE X o ta) (c:Cls X.K C) (hm:Meth X.K C m f) (F:FnOk X.prog X.w X.K X.mg X.base CX k f fd ps sp) (hr:Room k X.A) (hb:gR X.K fd ps ds) (hd:aO dvs ds) (hx:jB CX X E)
  (ht:eval (.Call (.Attribute o m apos) [] [] pos) X.env=(do
   let ov<-eval o X.env
   standAt apos.atName
   let (f,first)<-holding [ov] (getMethod ov m pl)
   callWith pos f first (backTo pos (starEach [] X.env)) (backToKw pos (keywordEach [] X.env))):=by rfl) :
  PE X (.Call (.Attribute o m apos) [] [] pos) (xS C m sp dvs E ta wE):=by
 intro pins s σ H Q I h
 refine PySem.W.methodCall_KW (pl:=pl) (thn (he pins s σ H _ I h) fun u s1 hx9=>?_) ht
 obtain ⟨x,H1,I1,rx,a,dx,fs,ex,ea,l,q⟩:=hx9
 subst ex
 obtain rfl:u=Value.ref a:=rx
 refine mD I1 ea c hm l ?_
 exact PySem.W.callWith_K0 (first:=[.ref a]) I1.kIn hm.kp (uA (us:=[.ref a]) (vs:=[.ref a]) F hr hb hd hx I1 (.cons rfl .nil) q)
structure Mk (K:PySem.W.Frag) (C f:Addr):Prop where
 makes:PySem.W.makesIn K C=true
 init:PySem.W.findIn K (.ref C) "__init__" = some (some (.ref f))
 fn:PySem.W.isFn K (.ref f)=true
 kp:PySem.W.keepIn K (.ref C)=true
theorem xT {pins:List (Addr×Obj)} {σ:St} {H:Hp} {s:Shared} {Q:VK} {us:List Value} {vs:List V} (M:Mk X.K C f) (F:FnOk X.prog X.w X.K X.mg X.base CX k f fd ps sp) (hr:Room (k+1) X.A) (hb:gR X.K fd ps ds) (hd:aO dvs ds)
  (hx:jB CX X E) (I:Inv X pins σ H s) (r:aO vs us)
  (h:∀ x dx,H x=none->H dx=none->dx≠x->sp (.ref x::(vs++dvs)) (upd (upd H dx (.own x)) x (.ins C dx [])) (fun v H2=>v=.non/\Q (.ref x) H2) E) :
  wpAny (model X.prog X.w) X.A (call (.ref C) us) (EP X pins σ Q) X.xe s:=by
 have hq:=h (s.heap.objs.size+1) s.heap.objs.size (I.hok.fresh (Yt _)) (I.hok.fresh (Qi _)) (Jd (Zv _))
 have I2:=Inv.made (C:=C) I
 have r2:aO (V.ref (s.heap.objs.size+1)::(vs++dvs)) (Value.ref (s.heap.objs.size+1)::(us++ds)):=.cons rfl (r.append hd)
 have hl:(Value.ref (s.heap.objs.size+1)::us++ds).length=ps.length:=by
  have e:=r2.length
  rw [F.len _ _ _ _ hq] at e
  exact e.symm
 refine wpAny_call (xR (f:=f) I.kIn M.makes M.init (beq_iff_eq.mp M.fn) (codeAny_mono (F.run _ X.stack _ _ ⟨Value.ref (s.heap.objs.size+1)::us,[]⟩ (Value.ref (s.heap.objs.size+1)::(us++ds)) _ _ E (hr.make C us [])
  (I2.env0.make C us []) (hb _ (Value.ref (s.heap.objs.size+1)::us) I2.kIn hl) r2 hq) fun r s' hq'=>?_))
 cases r with
 | error e=>exact hx pins σ _ _ e s' I2 hq'
 | ok fl =>
  cases fl with
  | ret u =>
   obtain ⟨v,H',I3,rv,ev,q3⟩:=I2.after hq'
   subst ev
   exact ⟨rv,⟨V.ref (s.heap.objs.size+1),H',I3,rfl,q3⟩⟩
  | next=>exact False.elim hq'
  | brk=>exact False.elim hq'
  | cont=>exact False.elim hq'
theorem qE (M:Mk X.K C f) (F:FnOk X.prog X.w X.K X.mg X.base CX k f fd ps sp) (hr:Room (k+1) X.A) (hg:Gl X x) (hm:X.mg x=some (.ref C)) (hb:gR X.K fd ps ds) (hd:aO dvs ds) (hx:jB CX X E)
  (ha:PA X (e::es) t) (hdb:(x==("__debug__" : Str))=false:=by decide) (he:starEach (e::es) X.env=(false,eval e X.env)::starEach es X.env:=by rfl) (hpl:(backTo pos (starEach es X.env)).any (·.1)=false:=by rfl) :
  PE X (.Call (.Name x p) (e::es) [] pos) (aCf C sp dvs E t):=by
 intro pins s σ H Q I h
 refine wpAny_Call_Name_kw (pY I hg hm ?_ hdb)
 refine PySem.W.callWith_K (h₀:=X.base) I.ok.mod.kin M.kp (thn (ha pos pins s σ H _ I h) fun us s1 ⟨vs,H1,I1,r,q⟩=>⟨I1.kIn,?_⟩) he hpl
 exact xT M F hr hb hd hx I1 r q
end
section
variable {X:Cx} {CX:CXT} {k:Nat} {f C:Addr} {fd:FuncData} {ps ks:List Str} {sp:Sp} {E:XK} {x m:Str} {p pos apos kpos:Pos} {e o:Expr} {es:List Expr} {kws:List Keyword} {te ta:TE} {t tk:TA} {nm:Option Str}
structure KBinds (K:PySem.W.Frag) (fd:FuncData) (ps ks:List Str) (g:List Value->List Value->List Value) (gV:List V->List V->List V):Prop where
 to:∀ (s:Shared) (us ws:List Value),K.In s.heap->(g us ws).length=ps.length->BindsTo s fd ⟨us,ks.zip ws⟩ (ps.zip (g us ws))
 rel:∀ {vs:List V} {us:List Value} {zs:List V} {ws:List Value},aO vs us->aO zs ws->aO (gV vs zs) (g us ws)
variable {g:List Value->List Value->List Value} {gV:List V->List V->List V}
end
structure FnScope (N P:List Str) (sc:Scope):Prop where
 kind:sc.kind=.function
 co:sc.isCoroutine=false
 gen:sc.isGenerator=false
 nd:N.Nodup
 pre:N.take P.length=P
 par:∀ x∈P,sc.names.lookup x=some .local∨sc.names.lookup x=some .cell
 nofree:∀ y∈sc.names,y.2≠.free
theorem oY {kindOf:Str->Option NameKind} {x:Str}:∀ {binds:List (Str×Value)} {m:Str->Option Value},(∀ v,(x,v)∉binds)->bindL kindOf binds m x=m x
 | [],_,_=>rfl
 | (n,v)::r,m,h=>by
  unfold bindL
  rw [oY fun w hw=>h w (Qq _ hw)]
  split
  ·have:x≠n:=by rintro rfl; exact h v Qr
   simp [this]
  ·rfl
theorem oZ {kindOf:Str->Option NameKind} {x:Str}:∀ {binds:List (Str×Value)} {m:Str->Option Value},(∀ v,(x,v)∉binds)->bindC kindOf binds m x=m x
 | [],_,_=>rfl
 | (n,v)::r,m,h=>by
  unfold bindC
  rw [oZ fun w hw=>h w (Qq _ hw)]
  split
  ·rfl
  ·have:x≠n:=by rintro rfl; exact h v Qr
   simp [this]
theorem pA {kindOf:Str->Option NameKind} {x:Str} {v:Value}:∀ {P:List Str} {vs:List Value} {i:Nat} {m:Str->Option Value},P.Nodup->P[i]?=some x->vs[i]?=some v->kindOf x=some .local ->
  bindL kindOf (P.zip vs) m x=some v
 | [],_,_,_,_,h,_,_=>by simp at h
 | _::_,[],_,_,_,_,h,_=>by simp at h
 | p::P,w::vs,0,m,nd,h1,h2,hk=>by
  simp at h1 h2; subst h1; subst h2
  show bindL kindOf ((p,w)::P.zip vs) m p=_
  unfold bindL
  rw [oY fun v hv=>(Je.mp nd).1 (Yu hv).1,if_pos hk]
  simp
 | p::P,w::vs,i+1,m,nd,h1,h2,hk=>by
  show bindL kindOf ((p,w)::P.zip vs) m x=_
  unfold bindL
  exact pA (i:=i) (Je.mp nd).2 (by simpa using h1) (by simpa using h2) hk
theorem pB {kindOf:Str->Option NameKind} {x:Str} {v:Value}:∀ {P:List Str} {vs:List Value} {i:Nat} {m:Str->Option Value},P.Nodup->P[i]?=some x->vs[i]?=some v->kindOf x≠some .local ->
  bindC kindOf (P.zip vs) m x=some v
 | [],_,_,_,_,h,_,_=>by simp at h
 | _::_,[],_,_,_,_,h,_=>by simp at h
 | p::P,w::vs,0,m,nd,h1,h2,hk=>by
  simp at h1 h2; subst h1; subst h2
  show bindC kindOf ((p,w)::P.zip vs) m p=_
  unfold bindC
  rw [oZ fun v hv=>(Je.mp nd).1 (Yu hv).1,if_neg hk]
  simp
 | p::P,w::vs,i+1,m,nd,h1,h2,hk=>by
  show bindC kindOf ((p,w)::P.zip vs) m x=_
  unfold bindC
  exact pB (i:=i) (Je.mp nd).2 (by simpa using h1) (by simpa using h2) hk
def jI (N:List Str) (vs:List V):St:=vs.map some++List.replicate (N.length - vs.length) none
def uB (CX:CXT) (P:Program) (w:World) (K:PySem.W.Frag) (mg:Str->Option Value) (base:Heap) (N:List Str) (qual:Str) (scope:Scope) (f:Addr) (cd:Value) (A:Around) (outer:List Env) (s:Shared) (H:Hp) (E:XK):Cx where
 prog:=P
 w:=w
 K:=K
 mg:=mg
 base:=base
 A:=A.deeper (envOfC qual scope s.heap.objs.size f cd)
 N:=N
 s₀:=s
 H₀:=H
 env:=envOfC qual scope s.heap.objs.size f cd
 outer:=outer
 stack:=envOfC qual scope s.heap.objs.size f cd::outer
 ex:=[]
 calm:=true
 fn:=fun _=>true
 pn:=[]
 xe:=fun e s'=>wpAny (model P w) (A.deeper (envOfC qual scope s.heap.objs.size f cd)) (leaving (envOfC qual scope s.heap.objs.size f cd) e) (fun _ s''=>CX outer H s E e s'') (fun e' s''=>CX outer H s E e' s'') s'
theorem rX {sc:Scope} {n:Nat} {x:Str} (h:sc.names.lookup x=some .cell):∃ c,(cellsFrom n sc.names []).lookup x=some c:=by
 have q:=PySem.W.cellsFrom_some sc.names n [] (.inl h)
 exact Wb.mp q
theorem wF {CX:CXT} {P:Program} {w:World} {K:PySem.W.Frag} {mg:Str->Option Value} {base:Heap} {N ps:List Str} {qual:Str} {scope:Scope} {f:Addr} {cd:Value} {A:Around} {outer:List Env} {s s1:Shared} {H:Hp} {E:XK} {us:List Value} {vs:List V}
  (S:FnScope N ps scope) (hd:A.handled=none) (e0:Env0 P w K mg base A outer s H) (hl:vs.length=ps.length) (r:aO vs us)
  (x:InCallC s s.heap.objs.size (bindL (envOfC qual scope s.heap.objs.size f cd).kindOf (ps.zip us) fun _=>none) (cellsFrom (s.heap.objs.size+1) scope.names []) (bindC (envOfC qual scope s.heap.objs.size f cd).kindOf (ps.zip us) fun _=>none) s1) :
  Inv (uB CX P w K mg base N qual scope f cd A outer s H E) [] (jI N vs) H s1:=by
 have hpl:ps.length<=N.length:=by have:=congrArg Zw S.pre; rw [Xe] at this; omega
 obtain ⟨h1,tk,rfl,hk⟩:=x.done
 have noA:∀ b:Addr,b∉(uB CX P w K mg base N qual scope f cd A outer s H E).ex:=fun b z=>absurd (show b∈([]:List Addr) from z) (by simp)
 refine ⟨⟨e0.mod,S.kind,rfl,rfl,Qi _,fun y z c h1 h2=>?_,fun y hy=>?_,fun y c _ h=>?_,fun _=>hd,Around.frames_deeper e0.frames,.inr ⟨rfl,rfl⟩,fun b z=>absurd z (noA b),e0.bs,e0.bsz,fun b _ _=>noA b,fun b z=>absurd z (noA b),e0.funs,e0.frf⟩,
  rfl,e0.bare,Un.kept hk,⟨_,x.toInCall.ns,fun i y v h1 h2 h3=>?_⟩,fun y c h=>⟨_,x.cell y c h⟩,e0.hok.fresh (Qi _),fun y c h=>?_,fun p hp=>absurd (show p∈([]:List (Addr×Obj)) from hp) (by simp),e0.hok.kept hk,?_⟩
 ·exact name_of_addr x.apart (PySem.mem_of_lookup h1) (PySem.mem_of_lookup h2)
 ·have hy:scope.names.lookup y=some .cell∨scope.names.lookup y=some .free:=hy
  rcases hy with hy | hy
  ·exact rX hy
  ·exact absurd rfl (S.nofree _ (PySem.mem_of_lookup hy))
 ·exact Zc (x.above y c (PySem.mem_of_lookup h))
 ·have hi:i < vs.length:=by
   unfold jI at h2
   by_cases hi:i < vs.length
   ·exact hi
   ·rw [Qv (by simpa using hi)] at h2
    rw [Xr] at h2
    split at h2 <;> cases h2
  have ha:vs[i]?=some v:=by
   unfold jI at h2
   rw [Qj (by simpa using hi),Qg] at h2
   cases e:vs[i]? with
   | none=>rw [e] at h2; cases h2
   | some a=>rw [e] at h2; cases h2; rfl
  obtain ⟨u,hu,rv⟩:=r.get ha
  have hp:ps[i]?=some y:=by
   rw [<- S.pre,List.getElem?_take_of_lt (by omega)]; exact h1
  have ndP:ps.Nodup:=by rw [<- S.pre]; exact S.nd.sublist (Wc _ _)
  refine ⟨u,rv,?_⟩
  rcases S.par y (Qe hp) with k | k
  ·exact .inl ⟨k,pA ndP hp hu k⟩
  ·obtain ⟨c,e⟩:=rX (n:=s.heap.objs.size+1) k
   refine .inr ⟨.inl k,c,e,?_⟩
   have q:=x.cell y c e
   rw [pB ndP hp hu (by show scope.names.lookup y≠_; rw [k]; decide)] at q
   exact q
 ·exact e0.hok.fresh (Zc (x.above y c (PySem.mem_of_lookup h)))
 ·unfold jI
  show _=N.length
  rw [Qh,Qd,Xc]
  omega
theorem aA4 {CX:CXT} {P:Program} {w:World} {K:PySem.W.Frag} {mg:Str->Option Value} {base:Heap} {k:Nat} {f:Addr} {name qual:Str} {params:Arguments} {body:List Stmt} {scope:Scope} {dV kV doc pm cdv ct oc:Value} {an od:Option Addr}
  {osl:Array (Option Value)} {N ps:List Str} {sp:Sp} (lk:K.lookup f=some ⟨oc,od,.func (PySem.W.fnOf name qual params body scope dV kV doc pm an cdv ct),osl⟩) (hcd:PySem.W.codeIn K cdv qual=true) (S:FnScope N ps scope)
  (len:∀ vs H Q E,sp vs H Q E->vs.length=ps.length)
  (hbody:∀ (A:Around) (outer:List Env) (s:Shared) (H:Hp) (vs:List V) (Q:VK) (E:XK),Room k (A.deeper (envOfC qual scope s.heap.objs.size f cdv))->sp vs H Q E ->
   ∃ t,PSs (uB CX P w K mg base N qual scope f cdv A outer s H E) body t/\t { nx:=fun _ H'=>Q .non H',rt:=Q } (jI N vs) H) :
  FnOk P w K mg base CX (k+1) f (PySem.W.fnOf name qual params body scope dV kV doc pm an cdv ct) ps sp:=by
 refine ⟨len,fun A outer s H args us vs Q E hr e0 hb r hsp=>?_⟩
 have hl:=len _ _ _ _ hsp
 have KX:K.In s.heap:=e0.mod.kin.keeps fun b o e=>(e0.bs b o e).1
 have lim:s.heap.NoLimit:=e0.mod.nolimit.keeps fun b o e=>(e0.bs b o e).1
 have hkind:∀ y∈ps.zip us,scope.names.lookup y.1=some .local∨(scope.names.lookup y.1=some .cell/\((cellsFrom (s.heap.objs.size+1) scope.names []).lookup y.1).isSome=true):=fun ⟨n,v⟩ hy=>by
  rcases S.par n (Yu hy).1 with q | q
  ·exact .inl q
  ·exact .inr ⟨q,PySem.W.cellsFrom_some _ _ _ (.inl q)⟩
 refine codeAny_call_function hr.depth (KX _ _ lk) rfl S.co S.gen rfl (PySem.W.codeRec_of KX hcd) (hb _ _ _ _ ?_)
 refine wpAny_newFunctionEnv_cells S.kind hkind fun env he s1 x=>?_
 subst he
 refine ⟨lim.keeps x.toInCall.keep,codeAny_func ?_⟩
 obtain ⟨t,ht,hq⟩:=hbody A outer s H vs Q E (hr.deeper _) hsp
 have I:Inv (uB CX P w K mg base N qual scope f cdv A outer s H E) [] (jI N vs) H s1:=wF S hr.hd e0 hl r x
 refine wpAny_mono (ht [] s1 (jI N vs) H _ I hq) (fun fl s' hs=>?_) fun e s' hs=>hs
 have fin:∀ {σ':St} {H':Hp} {v:V} {u:Value},Inv (uB CX P w K mg base N qual scope f cdv A outer s H E) [] σ' H' s'->aQ v u->Q v H'->CE outer P w H s Q u s' :=
  fun {σ' H' v u} J rv q=>⟨v,H',J.os,J.bare,J.base,J.hok,rv,q⟩
 cases fl with
 | ret u =>
  obtain ⟨v,σ',H',J,rv,q⟩:=hs
  exact fin J rv q
 | next =>
  obtain ⟨σ',H',J,q⟩:=hs
  exact fin (v:=V.non) (u:=Value.none) J rfl q
 | brk =>
  obtain ⟨_,_,_,q⟩:=hs
  exact False.elim q
 | cont =>
  obtain ⟨_,_,_,q⟩:=hs
  exact False.elim q
section
variable {X:Cx} {x:Str} {p pos:Pos} {e:Expr} {es:List Expr} {t:TA} {id T:String} {r:List V->Hp->VK->Prop}
def tCB (r:List V->Hp->VK->Prop) (t:TA):TE:=fun σ H Q=>t σ H fun vs H1=>r vs H1 Q
theorem aU (hc:dA X (.builtin id) r) (hg:Gl X x) (hm:X.mg x=none) (hv:bootBuiltins x=some (.builtin id)) (ha:PA X (e::es) t) (hn:x ≠ "__name__" := by decide) (hdb:(x==("__debug__" : Str))=false:=by decide)
  (he:starEach (e::es) X.env=(false,eval e X.env)::starEach es X.env:=by rfl) (hpl:(backTo pos (starEach es X.env)).any (·.1)=false:=by rfl):PE X (.Call (.Name x p) (e::es) [] pos) (tCB r t):=by
 intro pins s σ H Q I h
 refine wpAny_Call_Name_kw (iY I hg hm hv ?_ hn hdb)
 refine PyProof.Rows.callWith_builtin1 (thn (ha pos pins s σ H _ I h) fun us s1 hx9=>?_) he hpl
 obtain ⟨vs,H1,I1,r1,q1⟩:=hx9
 exact hc pins s1 σ H1 vs us Q I1 r1 q1
theorem bL (hc:dA X (.type T) r) (hg:Gl X x) (hm:X.mg x=none) (hv:bootBuiltins x=some (.type T)) (ha:PA X (e::es) t) (hn:x ≠ "__name__" := by decide) (hdb:(x==("__debug__" : Str))=false:=by decide)
  (he:starEach (e::es) X.env=(false,eval e X.env)::starEach es X.env:=by rfl) (hpl:(backTo pos (starEach es X.env)).any (·.1)=false:=by rfl):PE X (.Call (.Name x p) (e::es) [] pos) (tCB r t):=by
 intro pins s σ H Q I h
 refine wpAny_Call_Name_kw (iY I hg hm hv ?_ hn hdb)
 refine PyProof.Rows.callWith_type1 (thn (ha pos pins s σ H _ I h) fun us s1 hx9=>?_) he hpl
 obtain ⟨vs,H1,I1,r1,q1⟩:=hx9
 exact hc pins s1 σ H1 vs us Q I1 r1 q1
end
end L2
namespace HT
open PySem PyProof.Rows
section
open PySem.SeqAt
open PySem.AutoSeq1 (wpAny_loadPart')
open PySem.MeetsSeq PySem.MeetsSeq2 PySem.MeetsSeq3
end
section
variable {prog:Program} {w:World} {A:Around} {E:Value->Shared->Prop} {s:Shared}
def sIx (n d:Nat):Option Int->Nat
 | none=>d
 | some v=>if v < 0 then (v+(n:Int)).toNat else min v.toNat n
theorem sIx_none (n d:Nat):sIx n d none=d:=rfl
theorem sIx_nat (n d k:Nat):sIx n d (some (k:Int))=min k n:=by
 show (if (k:Int) < 0 then ((k:Int)+(n:Int)).toNat else min (k:Int).toNat n)=min k n
 rw [if_neg (by omega),Xh]
theorem pick_gen (xs:Array Value) (i k:Nat):((List.range k).filterMap fun (m:Nat)=>xs[((i:Int)+(m:Int)*1).toNat]?).toArray=((xs.toList.drop i).take k).toArray:=by
 have e:(fun (m:Nat)=>xs[((i:Int)+(m:Int)*1).toNat]?)=fun m=>xs[i+m]?:=by
  funext m
  have:((i:Int)+(m:Int)*1).toNat=i+m:=by omega
  rw [this]
 rw [e]
 have:=pick_run xs i k
 rw [Ww] at this
 have e2:((fun x=>xs[x]?) ∘ fun x=>i+x)=fun m=>xs[i+m]?:=rfl
 rw [e2] at this
 rw [this]
end
end HT
namespace L2
open PySem PySem.Spec PyProof.Rows
abbrev TO:=St->Hp->(Option Int->Hp->Prop)->Prop
def PO (X:Cx) (e:Option Expr) (t:TO):Prop :=
 ∀ (pins:List (Addr×Obj)) (s:Shared) (σ:St) (H:Hp) (Q:Option Int->Hp->Prop),Inv X pins σ H s->t σ H Q ->
  wpAny (model X.prog X.w) X.A (evalPart e X.env) (fun u s'=>∃ o H',Inv X pins σ H' s'/\IsPart u o/\Q o H') X.xe s
def aAs:TO:=fun _ H Q=>Q none H
def xU (t:TE):TO:=fun σ H Q=>t σ H fun x H1=>∃ i,x=.int i/\Q (some i) H1
theorem gC {ns:List Int}:∀ {us:List Value},aO (ns.map V.int) us->IntsAre us ns:=by
 induction ns with
 | nil=>intro us r; rw [Zy] at r; cases r; exact .nil
 | cons n ns ih =>
  intro us r
  rw [Qu] at r
  cases r with
  | cons r1 r2 =>
   obtain ⟨t,e⟩:=r1
   subst e
   exact .cons n t (ih r2)
section
variable {X:Cx} {e:Expr} {te:TE} {lo hi:Option Expr} {tl th:TO} {pos p2:Pos}
theorem aAt:PO X none aAs:=by
 intro pins s σ H Q I h
 rw [evalPart_none]
 exact wpAny_pure ⟨none,H,I,.none,h⟩
theorem jJ (h:PE X e te):PO X (some e) (xU te):=by
 intro pins s σ H Q I hw
 rw [evalPart_some]
 refine thn (h pins s σ H _ I hw) fun u s1 hx9=>?_
 obtain ⟨x,H1,I1,r1,q1⟩:=hx9
 obtain ⟨i,rfl,q⟩:=q1
 obtain ⟨t,rfl⟩:=r1
 exact ⟨some i,H1,I1,.int i t,q⟩
def SlR (X:Cx) (r:V->Option Int->Option Int->Hp->VK->Prop):Prop :=
 ∀ (pins:List (Addr×Obj)) (s:Shared) (σ:St) (H:Hp) (x:V) (v vl vu:Value) (lo hi:Option Int) (sl:Addr) (Q:VK),Inv X pins σ H s->aQ x v->s.heap.IsSliceOf sl vl vu .none->IsPart vl lo->IsPart vu hi->r x lo hi H Q ->
  ∃ T id,typeLookup (.type T) "__getitem__" = pure (some (.builtin id))/\s.TypeIs v T/\wpAny (model X.prog X.w) X.A (getItem v (.ref sl)) (EP X pins σ Q) X.xe s
def tSl (r:V->Option Int->Option Int->Hp->VK->Prop) (te:TE) (tl th:TO):TE:=fun σ H Q=>te σ H fun x H1=>tl σ H1 fun l H2=>th σ H2 fun u H3=>r x l u H3 Q
theorem mG {r:V->Option Int->Option Int->Hp->VK->Prop} (hr:SlR X r) (he:PE X e te) (hl:PO X lo tl) (hu:PO X hi th):PE X (.Subscript e (.Slice lo hi none p2) pos) (tSl r te tl th):=by
 intro pins s σ H Q I h
 refine Subscript_ (thn (he pins s σ H _ I h) fun v s1 hx9=>?_)
 obtain ⟨x,H1,I1,r1,q1⟩:=hx9
 refine wpAny_Slice (thn (hl pins s1 σ H1 _ I1 q1) fun vl s2 ⟨l,H2,I2,pl,q2⟩=>thn (hu pins s2 σ H2 _ I2 q2) fun vu s3 hx9=>?_)
 obtain ⟨u,H3,I3,pu,q3⟩:=hx9
 rw [evalPart_none]
 refine wpAny_pure ?_
 have I4:Inv X pins σ H3 { s3 with heap:=s3.heap.push { cls:=.type "slice",data:=.fields #[vl,vu,.none] } }:=I3.kept (t':=s3.toks) fun b ob q=>Qc _ q
 obtain ⟨T,id,hT,ht,hg⟩:=hr pins { s3 with heap:=s3.heap.push { cls:=.type "slice",data:=.fields #[vl,vu,.none] } } σ H3 x v vl vu l u s3.heap.objs.size Q I4 r1 (Heap.IsSliceOf.new ..) pl pu q3
 show wpAny (model X.prog X.w) X.A (subscriptTail e (.Slice lo hi none p2) v (.ref s3.heap.objs.size)) (EP X pins σ Q) X.xe { s3 with heap:=s3.heap.push { cls:=.type "slice",data:=.fields #[vl,vu,.none] } }
 exact tail_any (ops:=[.ref s3.heap.objs.size,v]) ht hT hg (by with_unfolding_all rfl)
def rY (xs:List V) (lo hi:Option Int):List V:=(xs.drop (HT.sIx xs.length 0 lo)).take (HT.sIx xs.length xs.length hi - HT.sIx xs.length 0 lo)
theorem rZ (xs:List V) (lo hi:Option Int):(rY xs lo hi).length<=xs.length:=by
 unfold rY
 rw [Xe,Zh]
 exact Ja (Nat.min_le_right _ _) (Nat.sub_le _ _)
end
def ixN (n:Nat) (i:Int):Option Nat:=if 0<=i then (if i < n then some i.toNat else none) else if -(n:Int)<=i then some (i+n).toNat else none
def atI {α:Type} (xs:List α) (i:Int):Option α:=(ixN xs.length i).bind fun j=>xs[j]?
theorem qF {n:Nat} {i:Int} {j:Nat} (h:ixN n i=some j):seqIndex? i n=some j/\j < n/\-(n:Int)<=i/\i < n:=by
 unfold ixN at h
 by_cases h0:0<=i
 ·rw [if_pos h0] at h
  by_cases h1:i < n
  ·rw [if_pos h1] at h
   have e:i.toNat=j:=Option.some.inj h
   exact ⟨by rw [seqIndex_of h0 h1,e],by omega,by omega,h1⟩
  ·rw [if_neg h1] at h; cases h
 ·rw [if_neg h0] at h
  by_cases h1:-(n:Int)<=i
  ·rw [if_pos h1] at h
   have e:(i+n).toNat=j:=Option.some.inj h
   exact ⟨by rw [seqIndex_neg (by omega) h1,e],by omega,h1,by omega⟩
  ·rw [if_neg h1] at h; cases h
theorem vA {α:Type} {xs:List α} {i:Int} {v:α} (h:atI xs i=some v):∃ j,seqIndex? i xs.length=some j/\xs[j]?=some v/\j < xs.length/\-(xs.length:Int)<=i/\i < xs.length:=by
 unfold atI at h
 cases e:ixN xs.length i with
 | none=>rw [e] at h; cases h
 | some j =>
  rw [e] at h
  obtain ⟨h1,h2,h3,h4⟩:=qF e
  exact ⟨j,h1,h,h2,h3,h4⟩
theorem cH {α:Type} {xs:List α} {j:Nat} {v:α} (h:xs[j]?=some v):atI xs (j:Int)=some v:=by
 have hj:j < xs.length:=(Qa.mp h).1
 have e:ixN xs.length (j:Int)=some j:=by
  unfold ixN
  rw [if_pos (by omega),if_pos (by omega)]; simp
 unfold atI; rw [e]; exact h
theorem xV {α:Type} (xs:List α) (v:α):atI (xs++[v]) (-1)=some v:=by
 have hl:(xs++[v]).length=xs.length+1:=by simp
 have e:ixN (xs++[v]).length (-1)=some xs.length:=by
  unfold ixN
  rw [hl,if_neg (by decide),if_pos (by omega)]
  congr 1
  omega
 unfold atI
 rw [e]
 show (xs++[v])[xs.length]?=some v
 simp
def aAu (b:Expr):Prop:=∀ o i,subscripted b false o i=operate [o,i] (getItem o i)
def IxR (X:Cx) (r:R2):Prop :=
 ∀ (value slice:Expr) (pins:List (Addr×Obj)) (s:Shared) (σ:St) (H:Hp) (x y:V) (v u:Value) (Q:VK),Inv X pins σ H s->aQ x v->aQ y u->r x y H Q ->
  subscripted slice false v u=operate [v,u] (getItem v u)->wpAny (model X.prog X.w) X.A (subscriptTail value slice v u) (EP X pins σ Q) X.xe s
def MtR (X:Cx) (id:String) (r:V->List V->Hp->VK->Prop):Prop :=
 ∀ (pins:List (Addr×Obj)) (s:Shared) (σ:St) (H:Hp) (x:V) (xs:List V) (v:Value) (us:List Value) (Q:VK),Inv X pins σ H s->aQ x v->aO xs us->r x xs H Q ->
  wpAny (model X.prog X.w) X.A (call (.builtin id) (v::us)) (EP X pins σ Q) X.xe s
section
variable {X:Cx} {a b:Expr} {ta tb:TE} {pos:Pos}
theorem aX {r:R2} (hr:IxR X r) (ha:PE X a ta) (hb:PE X b tb) (hs:aAu b):PE X (.Subscript a b pos) (tOp r ta tb):=by
 intro pins s σ H Q I h
 exact Subscript_ (aBr ha hb I h fun v u s2 x y H2 I2 rx ry q=>hr a b pins s2 σ H2 x y v u Q I2 rx ry q (hs _ _))
def aCg (K:PySem.W.Frag):R2:=fun x y H Q=>∃ p xs i v,x=.ref p/\y=.int i/\SqL K H p xs/\atI xs i=some v/\Q v H
def aCV (K:PySem.W.Frag):R2:=fun x y H Q=>∃ p xs i v,x=.ref p/\y=.int i/\SqT K H p xs/\atI xs i=some v/\Q v H
theorem bE:IxR X (aCg X.K):=by
 intro value slice pins s σ H x y v u Q I rx ry h hs
 obtain ⟨p,xs,i,z,rfl,rfl,hq,he,q⟩:=h
 cases rx
 obtain ⟨t,rfl⟩:=ry
 obtain ⟨its,r,pl,hz⟩:=I.list hq
 obtain ⟨j,h1,h2,h3,h4,h5⟩:=vA he
 obtain ⟨w,ew,rw'⟩:=r.get h2
 have hl:=r.length
 have hn:=mB
 have fin:EP X pins σ Q w s:=⟨z,H,I,rw',q⟩
 by_cases h0:0<=i
 ·have hj:i.toNat=j:=by
   rw [seqIndex_of h0 h5] at h1
   exact Option.some.inj h1
  exact item_listR pl.isList h0 (by omega) (by rw [hj]; simpa using ew) fin hs
 ·have hj:(i+(its.toArray.size:Int)).toNat=j:=by
   rw [seqIndex_neg (by omega) h4] at h1
   rw [Qp,<- hl]
   exact Option.some.inj h1
  exact subscriptTail_builtinR (x:=w) pl.isList.typeIs slot_list_getitem.lookup
   (wpAny_getItem_list_neg (Q:=fun r s'=>r=w/\EP X pins σ Q r s') pl.isList (by omega) (by rw [Qp] <;> omega) (by omega) (by rw [hj]; simpa using ew) ⟨rfl,fin⟩) hs
theorem cB:IxR X (aCV X.K):=by
 intro value slice pins s σ H x y v u Q I rx ry h hs
 obtain ⟨p,xs,i,z,rfl,rfl,hq,he,q⟩:=h
 cases rx
 obtain ⟨t,rfl⟩:=ry
 obtain ⟨its,r,pl,hz⟩:=I.tuple hq
 obtain ⟨j,h1,h2,h3,h4,h5⟩:=vA he
 obtain ⟨w,ew,rw'⟩:=r.get h2
 have hl:=r.length
 have hn:=mB
 have fin:EP X pins σ Q w s:=⟨z,H,I,rw',q⟩
 exact subscriptTail_builtinR (x:=w) pl.typeIs slot_tuple_getitem.lookup
  (getItem_tuple (j:=j) (Q:=fun r s'=>r=w/\EP X pins σ Q r s') pl (by omega) (by omega) (by rw [Qp,<- hl]; exact h1) (by simpa using ew) ⟨rfl,fin⟩) hs
theorem uC (its:List Value) (n j:Nat) (u:Value):Obj.mapSeq (·.setIfInBounds j u) { cls:=.type "list",data:=.seq its.toArray n }={ cls:=.type "list",data:=.seq (its.set j u).toArray n }:=by
 simp [Obj.mapSeq]
theorem Inv.lst {pins:List (Addr×Obj)} {σ:St} {H:Hp} {s:Shared} {p:Addr} {xs:List V} (I:Inv X pins σ H s) (h:H p=some (.lst xs)) :
  ∃ (its:List Value) (n:Nat),aO xs its/\s.heap.get? p=some { cls:=.type "list",data:=.seq its.toArray n }/\xs.length<=sizeLine:=by
 obtain ⟨z,its,n,r,e⟩:=I.hok p _ h
 exact ⟨its,n,r,e,z⟩
theorem Inv.lstUpd {pins:List (Addr×Obj)} {σ:St} {H:Hp} {s:Shared} {p:Addr} {xs ys:List V} {its its':List Value} {n n':Nat} {f:Obj->Obj} (I:Inv X pins σ H s) (h:H p=some (.lst xs))
  (ho:s.heap.get? p=some { cls:=.type "list",data:=.seq its.toArray n }) (hf:f { cls:=.type "list",data:=.seq its.toArray n }={ cls:=.type "list",data:=.seq its'.toArray n' }) (r:aO ys its') (hz:ys.length<=sizeLine) (t:Nat) :
  Inv X pins σ (upd H p (.lst ys)) { s with heap:=s.heap.update p f,toks:=t }:=by
 have e:(s.heap.update p f).get? p=some { cls:=.type "list",data:=.seq its'.toArray n' }:=by
  rw [Zn f ho (by rw [hf] <;> rfl),hf]
 refine I.write (x:=p) (e:=p) (by rw [h]; trivial) (.inl rfl) (fun b u hb q=>(Jx _ _ (Ne.symm hb)).trans q) ⟨_,e⟩ ?_
 exact ⟨hz,its',n',r,e⟩
def aCh:V->V->V->Hp->(Hp->Prop)->Prop:=fun o i v H Q=>∃ p xs k j,o=.ref p/\i=.int k/\H p=some (.lst xs)/\ixN xs.length k=some j/\Q (upd H p (.lst (xs.set j v)))
theorem mH:aB6 X aCh:=by
 intro pins s σ H o i v ov iv u Q I ro ri rv h
 obtain ⟨p,xs,k,j,rfl,rfl,hp,hj,q⟩:=h
 cases ro
 obtain ⟨t,rfl⟩:=ri
 obtain ⟨its,n,r,ho,hz⟩:=I.lst hp
 obtain ⟨h1,h2,h3,h4⟩:=qF hj
 have hl:=r.length
 have hn:=mB
 have I':Inv X pins σ (upd H p (.lst (xs.set j v))) { s with heap:=s.heap.update p (Obj.mapSeq (·.setIfInBounds j u)) } :=
  I.lstUpd hp ho (uC its n j u) (r.set rv j) (by rw [Yv]; exact hz) s.toks
 by_cases h0:0<=k
 ·have hk:k.toNat=j:=by
   rw [seqIndex_of h0 h4] at h1
   exact Option.some.inj h1
  exact PySem.W.ki_setAt ho h0 (by omega) (by rw [Qp,<- hl]; exact h4) (by rw [hk]; exact ⟨_,I',q⟩)
 ·have hk:(k+(its.toArray.size:Int)).toNat=j:=by
   rw [seqIndex_neg (by omega) h3] at h1
   rw [Qp,<- hl]
   exact Option.some.inj h1
  exact PySem.W.ki_setBack ho (by omega) (by rw [Qp,<- hl]; exact h3) (by omega) (by rw [hk]; exact ⟨_,I',q⟩)
theorem qG (lo hi:Option Int) (n:Nat):(sliceBounds lo hi none n).1=((HT.sIx n 0 lo:Nat):Int)/\(sliceBounds lo hi none n).2.1=((HT.sIx n n hi:Nat):Int)/\(sliceBounds lo hi none n).2.2=1:=by
 refine ⟨?_,?_,rfl⟩
 ·cases lo with
  | none=>simp [sliceBounds,HT.sIx]
  | some i =>
   simp only [sliceBounds,HT.sIx,Qaa,show (1:Int) > 0 by decide,if_true]
   by_cases h:i < 0
   ·simp only [h,if_true] <;> omega
   ·simp only [h,if_false] <;> omega
 ·cases hi with
  | none=>simp [sliceBounds,HT.sIx]
  | some i =>
   simp only [sliceBounds,HT.sIx,Qaa,show (1:Int) > 0 by decide,if_true]
   by_cases h:i < 0
   ·simp only [h,if_true] <;> omega
   ·simp only [h,if_false] <;> omega
theorem oM (its:List Value) (lo hi:Option Int):slicePick its.toArray lo hi none=((its.drop (HT.sIx its.length 0 lo)).take (HT.sIx its.length its.length hi - HT.sIx its.length 0 lo)).toArray:=by
 obtain ⟨h1,h2,h3⟩:=qG lo hi its.toArray.size
 unfold slicePick
 rw [h1,h2,h3]
 simp only [sliceRange_one,pick_run,Qp] <;> rfl
def aCi (K:PySem.W.Frag):V->Option Int->Option Int->Hp->VK->Prop:=fun x lo hi H Q=>∃ a xs,x=.ref a/\SqL K H a xs/\∀ p,H p=none->Q (.ref p) (upd H p (.lst (rY xs lo hi)))
theorem qH:SlR X (aCi X.K):=by
 intro pins s σ H x v vl vu lo hi sl Q I rx hs pl pu h
 obtain ⟨a,xs,rfl,hx,q⟩:=h
 cases rx
 obtain ⟨its,r,ht,hz⟩:=I.list hx
 have hlen:=r.length
 refine ⟨"list",_,slot_list_getitem.lookup,ht.isList.typeIs,?_⟩
 refine wpAny_getItem_list_slice ht.isList hs pl pu .none (by simp) ?_ (by rw [Qp] <;> omega)
 rw [oM,<- hlen]
 refine ⟨.ref s.heap.objs.size,_,I.laid (t':=s.toks) (o:=.lst (rY xs lo hi)) (fun b ob q=>Qc _ q) (Qi _) ?_,rfl,q _ (I.hok.fresh (Qi _))⟩
 exact ⟨Ja (rZ xs lo hi) hz,_,0,(r.drop (HT.sIx xs.length 0 lo)).take (HT.sIx xs.length xs.length hi - HT.sIx xs.length 0 lo),Ql _ rfl⟩
def kU:V->Bool
 | .non=>true
 | .bl _=>true
 | .int _=>true
 | .str _=>true
 | _=>false
def eqV:V->V->Bool
 | .non,.non=>true
 | .bl a,.bl b=>a==b
 | .bl a,.int b=>(if a then 1 else 0)==b
 | .int a,.bl b=>a==(if b then 1 else 0)
 | .int a,.int b=>a==b
 | .str a,.str b=>a==b
 | _,_=>false
theorem aBw {A:Around} {s:Shared} {y x:V} {u v:Value} (ry:aQ y u) (rx:aQ x v) (fy:kU y=true) (fx:kU x=true):SeqAt.EqAt A s u v (eqV y x):=by
 cases y with
 | non =>
  cases ry
  cases x with
  | non=>cases rx; exact SeqAt.EqAt.same _
  | bl b=>cases rx; exact SeqAt.EqAt.none_bool b
  | int b=>obtain ⟨t,rfl⟩:=rx; exact SeqAt.EqAt.none_int b t
  | str b=>obtain ⟨t,rfl⟩:=rx; exact SeqAt.EqAt.none_str b t
  | _=>exact absurd (show false=true from fx) Qt
 | bl a =>
  cases ry
  cases x with
  | non=>cases rx; exact SeqAt.EqAt.bool_none a
  | bl b=>cases rx; exact SeqAt.EqAt.bool_bool a b
  | int b=>obtain ⟨t,rfl⟩:=rx; exact SeqAt.EqAt.bool_int a b t
  | str b=>obtain ⟨t,rfl⟩:=rx; exact SeqAt.EqAt.bool_str a b t
  | _=>exact absurd (show false=true from fx) Qt
 | int a =>
  obtain ⟨t',rfl⟩:=ry
  cases x with
  | non=>cases rx; exact SeqAt.EqAt.int_none a t'
  | bl b=>cases rx; exact SeqAt.EqAt.int_bool a t' b
  | int b=>obtain ⟨t,rfl⟩:=rx; exact SeqAt.EqAt.int_int a t' b t
  | str b=>obtain ⟨t,rfl⟩:=rx; exact SeqAt.EqAt.int_str a t' b t
  | _=>exact absurd (show false=true from fx) Qt
 | str a =>
  obtain ⟨t',rfl⟩:=ry
  cases x with
  | non=>cases rx; exact SeqAt.EqAt.str_none a t'
  | bl b=>cases rx; exact SeqAt.EqAt.str_bool a t' b
  | int b=>obtain ⟨t,rfl⟩:=rx; exact SeqAt.EqAt.str_int a t' b t
  | str b=>obtain ⟨t,rfl⟩:=rx; exact SeqAt.EqAt.str_str a t' b t
  | _=>exact absurd (show false=true from fx) Qt
 | _=>exact absurd (show false=true from fy) Qt
def eqU (x:V) (u:Value):Bool:=match u with
 | .none=>eqV .non x
 | .bool b=>eqV (.bl b) x
 | .int i _=>eqV (.int i) x
 | .str z _=>eqV (.str z) x
 | _=>false
theorem xW {x y:V} {u:Value} (r:aQ y u) (f:kU y=true):eqU x u=eqV y x:=by
 cases y with
 | non=>cases r; rfl
 | bl b=>cases r; rfl
 | int i=>obtain ⟨t,rfl⟩:=r; rfl
 | str z=>obtain ⟨t,rfl⟩:=r; rfl
 | _=>exact absurd (show false=true from f) Qt
theorem vB {x:V}:∀ {xs:List V} {us:List Value},aO xs us->xs.all kU=true->us.any (eqU x)=xs.any fun y=>eqV y x
 := by
 intro xs us h
 induction h with
 | nil=>intro _; rfl
 | cons r t ih =>
  intro f
  rw [List.all_cons,Ju] at f
  rw [Yb,Yb,xW r f.1,ih f.2]
theorem mI {A:Around} {s:Shared} {x:V} {v:Value} (rx:aQ x v) (fx:kU x=true):∀ {xs:List V} {us:List Value},aO xs us->xs.all kU=true->∀ u∈us,SeqAt.EqAt A s u v (eqU x u)
 | _,_,.nil,_=>fun u hu=>by cases hu
 | y::xs,u::us,.cons r t,f=>fun u' hu=>by
  rw [List.all_cons,Ju] at f
  rcases Qs.mp hu with rfl | hu
  ·rw [xW r f.1]; exact aBw r rx f.1 fx
  ·exact mI rx fx t f.2 u' hu
def inV (x:V) (xs:List V):Bool:=xs.any fun y=>eqV y x
def rIn (K:PySem.W.Frag) (neg:Bool):R2:=fun x y H Q=>∃ p xs,y=.ref p/\(SqL K H p xs∨SqT K H p xs)/\kU x=true/\xs.all kU=true/\Q (.bl (if neg then !inV x xs else inV x xs)) H
theorem wG:OpR X (compareOp .In) (rIn X.K false):=by
 intro pins s σ H x y v u Q I rx ry h
 obtain ⟨p,xs,rfl,hq,fx,fs,q⟩:=h
 cases ry
 rcases hq with hq | hq
 ·obtain ⟨its,r,pl,hz⟩:=I.list hq
  refine SeqAt.in_listAt (eqU x) pl.isList (fun w hw=>mI rx fx r fs w (by simpa using hw)) ⟨.bl _,H,I,rfl,?_⟩
  rw [show its.toArray.any (eqU x)=its.any (eqU x) by simp,vB r fs]
  exact q
 ·obtain ⟨its,r,pl,hz⟩:=I.tuple hq
  refine SeqAt.in_tupleAt (eqU x) pl (fun w hw=>mI rx fx r fs w (by simpa using hw)) ⟨.bl _,H,I,rfl,?_⟩
  rw [show its.toArray.any (eqU x)=its.any (eqU x) by simp,vB r fs]
  exact q
theorem aV:dA X (.builtin "len") (fun xs H Q=>∃ p ys,xs = [.ref p]/\(SqL X.K H p ys∨SqT X.K H p ys)/\Q (.int ys.length) H):=by
 intro pins s σ H xs us Q I r h
 obtain ⟨p,ys,rfl,hq,q⟩:=h
 obtain ⟨u,rfl,rx⟩:=eK r
 cases rx
 have hn:=mB
 rcases hq with hq | hq
 ·obtain ⟨its,r',pl,hz⟩:=I.list hq
  have hlen:=r'.length
  exact Calls.call_len_list pl.isList (by simp only [Qp] <;> omega) ⟨.int ys.length,H,I.tok _,⟨s.toks+1,by rw [Qp,hlen]⟩,q⟩
 ·obtain ⟨its,r',pl,hz⟩:=I.tuple hq
  have hlen:=r'.length
  exact len_tuple pl (by simp only [Qp] <;> omega) ⟨.int ys.length,H,I.tok _,⟨s.toks+1,by rw [Qp,hlen]⟩,q⟩
theorem qI:dA X (.type "list") (fun xs H Q=>∃ p ys,xs = [.ref p]/\(SqL X.K H p ys∨SqT X.K H p ys)/\∀ l,H l=none->Q (.ref l) (upd H l (.lst ys))):=by
 intro pins s σ H xs us Q I r h
 obtain ⟨p,ys,rfl,hq,q⟩:=h
 obtain ⟨u,rfl,rx⟩:=eK r
 cases rx
 have fin:∀ (its:List Value),aO ys its->ys.length<=sizeLine->∀ (h':Heap) (c':Nat),(∀ b o',s.heap.get? b=some o'->h'.get? b=some o') ->
   h'.get? s.heap.objs.size=some { cls:=.type "list",dict:=none,data:=.seq its.toArray c',slots:=#[] }->EP X pins σ Q (.ref s.heap.objs.size) { s with heap:=h' }:=fun its r' hz h' c' kp e =>
  ⟨.ref s.heap.objs.size,_,I.laid (t':=s.toks) kp (Qi _) (show bB X.prog X.w _ h' _ (.lst ys) from ⟨hz,its,c',r',e⟩),rfl,q _ (I.hok.fresh (Qi _))⟩
 rcases hq with hq | hq
 ·obtain ⟨its,r',pl,hz⟩:=I.list hq
  have hlen:=r'.length
  obtain ⟨o,ho,hc,n,hd⟩:=pl.isList
  exact call_list_seq p (.inl rfl) ho hc hd (fun h' c' kp e=>fin its r' hz h' c' kp e) (by simp only [Qp] <;> omega)
 ·obtain ⟨its,r',pl,hz⟩:=I.tuple hq
  have hlen:=r'.length
  obtain ⟨o,ho,hc,n,hd⟩:=pl
  exact call_list_seq p (.inr rfl) ho hc hd (fun h' c' kp e=>fin its r' hz h' c' kp e) (by simp only [Qp] <;> omega)
theorem fJ:dA X (.type "tuple") (fun xs H Q=>∃ p ys,xs = [.ref p]/\((SqL X.K H p ys/\∀ l,H l=none->Q (.ref l) (upd H l (.tup ys)))∨(SqT X.K H p ys/\Q (.ref p) H))):=by
 intro pins s σ H xs us Q I r h
 obtain ⟨p,ys,rfl,h⟩:=h
 obtain ⟨u,rfl,rx⟩:=eK r
 cases rx
 rcases h with ⟨hq,q⟩ | ⟨hq,q⟩
 ·obtain ⟨its,r',pl,hz⟩:=I.list hq
  have hlen:=r'.length
  refine call_tuple_list pl.isList (fun h' kp=>?_) (by simp only [Qp] <;> omega)
  have I1:Inv X pins σ H { s with heap:=h' }:=I.kept (t':=s.toks) kp
  have I2:Inv X pins σ (upd H h'.objs.size (.tup ys)) { s with heap:=h'.push { cls:=.type "tuple",data:=.seq its.toArray } } :=
   I1.laid (t':=s.toks) (fun b o e=>Qc _ e) (Qi _) (show bB X.prog X.w _ _ _ (.tup ys) from ⟨hz,its,0,r',Ql _ rfl⟩)
  exact ⟨.ref h'.objs.size,_,I2,rfl,q _ (I1.hok.fresh (Qi _))⟩
 ·obtain ⟨its,r',pl,hz⟩:=I.tuple hq
  exact call_tuple_same pl ⟨.ref p,H,I,rfl,q⟩
def tyV (K:PySem.W.Frag) (T:String) (x:V) (H:Hp):Prop:=match x with
 | .str _=>T = "str"
 | .int _=>T = "int"
 | .ref p => (T = "list" /\ ∃ xs, SqL K H p xs) ∨ (T = "tuple" /\ ∃ xs, SqT K H p xs) ∨
     (T = "dict" /\ ((∃ kvs,H p=some (.dK kvs))∨∃ kvs,H p=some (.dT kvs)))∨(T = "set" /\ ∃ S n,H p=some (.set S n))
 | _=>False
theorem xX {pins:List (Addr×Obj)} {σ:St} {H:Hp} {s:Shared} {T:String} {x:V} {v:Value} (I:Inv X pins σ H s) (r:aQ x v) (ty:tyV X.K T x H) :
  s.TypeIs v T/\∀ a,v=.ref a->∃ ob,s.heap.get? a=some ob/\ob.dict=none:=by
 cases x with
 | str z =>
  obtain ⟨t,rfl⟩:=r
  cases (show T = "str" from ty)
  exact ⟨typeIs_str s z t,fun _ e=>nomatch e⟩
 | int i =>
  obtain ⟨t,rfl⟩:=r
  cases (show T = "int" from ty)
  exact ⟨typeIs_int s i t,fun _ e=>nomatch e⟩
 | ref p =>
  cases r
  rcases ty with ⟨rfl,xs,hq⟩ | ⟨rfl,xs,hq⟩ | ⟨rfl,hk⟩ | ⟨rfl,S,n,hk⟩
  ·obtain ⟨its,_,pl,_⟩:=I.list hq
   refine ⟨pl.isList.typeIs,fun a e=>?_⟩
   cases e
   obtain ⟨o,n,e,c,hd,_⟩:=pl
   exact ⟨o,e,hd⟩
  ·obtain ⟨o,e,hc,hd⟩:∃ o,s.heap.get? p=some o/\o.cls=.type "tuple" /\ o.dict=none:=by
    rcases hq with hq | ⟨o,_,_,hk,hc,hd,_⟩
    ·obtain ⟨_,its,n,_,e⟩:=hq.ok I.hok
     exact ⟨_,e,rfl,rfl⟩
    ·exact ⟨o,I.kIn p o hk,hc,hd⟩
   refine ⟨⟨o,e,hc⟩,fun a e2=>?_⟩
   cases e2
   exact ⟨o,e,hd⟩
  ·have z:∃ o,s.heap.get? p=some o/\o.ExactDict:=by
    rcases hk with ⟨kvs,hk⟩ | ⟨kvs,hk⟩
    ·obtain ⟨_,_,_,_,o,_,_,e,ex,_⟩:=I.hok p _ hk
     exact ⟨o,e,ex⟩
    ·obtain ⟨_,_,_,_,o,_,_,e,ex,_⟩:=I.hok p _ hk
     exact ⟨o,e,ex⟩
   obtain ⟨o,e,ex⟩:=z
   refine ⟨⟨o,e,ex.1⟩,fun a e2=>?_⟩
   cases e2
   exact ⟨o,e,ex.2.1⟩
  ·obtain ⟨o,_,_,_,e,ex,_⟩:=I.hok p _ hk
   refine ⟨⟨o,e,ex.1⟩,fun a e2=>?_⟩
   cases e2
   exact ⟨o,e,ex.2.1⟩
 | _=>exact False.elim ty
def aCW (K:PySem.W.Frag) (T:String) (r:V->List V->Hp->VK->Prop) (to:TE):TE:=fun σ H Q=>to σ H fun x H1=>tyV K T x H1/\r x [] H1 Q
def tBM (K:PySem.W.Frag) (T:String) (r:V->List V->Hp->VK->Prop) (to:TE) (t:TA):TE:=fun σ H Q=>to σ H fun x H1=>tyV K T x H1/\t σ H1 fun xs H2=>r x xs H2 Q
variable {o e:Expr} {es:List Expr} {to:TE} {t:TA} {name:Str} {apos cpos:Pos} {T id:String} {r:V->List V->Hp->VK->Prop}
theorem xY (pa:PlainAttrs T) (slot:Slot T name id) (hty:typeOf (.builtin id)=pure (.type "method_descriptor")) (hm:MtR X id r) (ho:PE X o to)
  (hbase:attributeBase o name X.env (eval o X.env)=eval o X.env:=by rfl) (hline:(apos.endLine==cpos.line)=true:=by rfl):PE X (.Call (.Attribute o name apos) [] [] cpos) (aCW X.K T r to):=by
 intro pins s σ H Q I h
 refine wpAny_Call_method0_late hbase hline (thn (ho pins s σ H _ I h) fun v s1 hx9=>?_)
 obtain ⟨x,H1,I1,r1,ty,q1⟩:=hx9
 obtain ⟨h1,h2⟩:=xX I1 r1 ty
 exact ⟨T,id,pa,slot,hty,h1,h2,Calls.callWith_builtin rfl (PySem.evalArgs_none (hm pins s1 σ H1 x [] v [] Q I1 r1 .nil q1))⟩
theorem sA (pa:PlainAttrs T) (slot:Slot T name id) (hty:typeOf (.builtin id)=pure (.type "method_descriptor")) (hm:MtR X id r) (ho:PE X o to) (ha:PA X (e::es) t)
  (hbase:attributeBase o name X.env (eval o X.env)=eval o X.env:=by rfl)
  (hfew:((backTo cpos (starEach (e::es) X.env)).all (fun x=>!x.1) && (backToKw cpos (keywordEach [] X.env)).all (fun x=>x.1.isSome)
   && decide ((e::es).length+([]:List Keyword).length+(if ([]:List Keyword).isEmpty then 0 else 1) < 30))=true:=by rfl)
  (hline:(apos.endLine==cpos.line)=true:=by rfl) (hs:starEach (e::es) X.env=(false,eval e X.env)::starEach es X.env:=by rfl) (hplain:(backTo cpos (starEach es X.env)).any (·.1)=false:=by rfl) :
  PE X (.Call (.Attribute o name apos) (e::es) [] cpos) (tBM X.K T r to t):=by
 intro pins s σ H Q I h
 refine wpAny_Call_method_late hbase hfew hline rfl (thn (ho pins s σ H _ I h) fun v s1 hx9=>?_)
 obtain ⟨x,H1,I1,r1,ty,q1⟩:=hx9
 obtain ⟨h1,h2⟩:=xX I1 r1 ty
 refine ⟨T,id,pa,slot,hty,h1,h2,?_⟩
 have hA:=ha cpos pins s1 σ H1 _ I1 q1
 rw [hs] at hA ⊢
 refine Calls.callWith_builtin (by show (false || (backTo cpos (starEach es X.env)).any (·.1))=false; rw [hplain] <;> rfl) (Calls.evalArgs_plain ?_)
 refine thn hA fun us s2 hx9=>?_
 obtain ⟨vs,H2,I2,r2,q2⟩:=hx9
 exact hm pins s2 σ H2 x vs v us Q I2 r1 r2 q2
/- xs.append(e),list.index on a module's tuple .. are MtR facts of 06m -/
end
def MtM (X:Cx) (id:String) (r:V->List V->Hp->VK->Prop):Prop :=
 ∀ (pins:List (Addr×Obj)) (s:Shared) (σ:St) (H:Hp) (x:V) (xs:List V) (v:Value) (us:List Value) (Q:VK),Inv X pins σ H s->aQ x v->aO xs us->r x xs H Q ->
  wpAny (model X.prog X.w) X.A (call (.builtin id) (v::us)) (EP X pins σ Q) X.xe s
theorem aO.one {x:V} {us:List Value} (r:aO [x] us):∃ u,us = [u]/\aQ x u:=eK r
theorem aO.two {x y:V} {us:List Value} (r:aO [x,y] us):∃ u v,us = [u,v]/\aQ x u/\aQ y v:=oX r
theorem aO.zero:∀ {us:List Value},aO [] us->us = []
 | _,.nil=>rfl
theorem aO.dropLast {xs:List V} {us:List Value} (h:aO xs us):aO xs.dropLast us.dropLast:=by
 induction h with
 | nil=>exact .nil
 | cons r t ih =>
  cases t with
  | nil=>exact .nil
  | cons q t'=>exact .cons r ih
theorem aO.eraseIdx:∀ {xs:List V} {us:List Value} (i:Nat),aO xs us->aO (xs.eraseIdx i) (us.eraseIdx i)
 | _,_,_,.nil=>.nil
 | _,_,0,.cons _ t=>t
 | _,_,i+1,.cons r t=>.cons r (aO.eraseIdx i t)
theorem aO.reverse {xs:List V} {us:List Value} (h:aO xs us):aO xs.reverse us.reverse:=by
 induction h with
 | nil=>exact .nil
 | cons r t ih=>rw [List.reverse_cons,List.reverse_cons]; exact aO.append ih (.cons r .nil)
theorem aO.rep {xs:List V} {us:List Value} (h:aO xs us):∀ k:Nat,aO (List.replicate k xs).flatten (List.replicate k us).flatten
 | 0=>.nil
 | k+1=>by
  rw [Xd,Xd,Zb,Zb]
  exact aO.append h (aO.rep h k)
theorem pC {α:Type}:∀ (l:List α) (i:Nat),(l.eraseIdx i).length<=l.length
 | [],_=>Qi _
 | _::_,0=>Yt _
 | _::r,i+1=>Nat.succ_le_succ (pC r i)
theorem iH (its:List Value):∀ (k:Nat) (acc:List Value),
  List.foldl (fun x1 x2=>x1++x2) acc.toArray (List.replicate k its.toArray)=(acc++(List.replicate k its).flatten).toArray
 | 0,acc=>by simp
 | k+1,acc=>by
  have e:acc.toArray++its.toArray=(acc++its).toArray:=by simp
  have e2:(acc++its)++(List.replicate k its).flatten=acc++(List.replicate (k+1) its).flatten:=by
   rw [Xd,Zb,Xs]
  rw [<- e2,<- iH its k (acc++its),<- e,Xd,List.foldl_cons]
section
variable {X:Cx} {pins:List (Addr×Obj)} {σ:St} {H:Hp} {s:Shared} {l b:Addr} {xs ys zs:List V}
theorem Inv.lset {its its':List Value} {n:Nat} {f:Array Value->Array Value} {t':Nat} (I:Inv X pins σ H s) (hH:H l=some (.lst xs))
  (e:s.heap.get? l=some { cls:=.type "list",data:=.seq its.toArray n }) (hf:f its.toArray=its'.toArray) (hv:aO ys its') (hz:ys.length<=sizeLine) :
  Inv X pins σ (upd H l (.lst ys)) { s with heap:=s.heap.update l (Obj.mapSeq f),toks:=t' }:=by
 have q:=PySem.IsL.update e f
 rw [hf] at q
 refine I.write (x:=l) (e:=l) (by rw [hH]; exact trivial) (.inl rfl) (fun b' u hb hu=>(Jx s.heap (Obj.mapSeq f) (Ne.symm hb)).trans hu) ⟨_,q⟩ ?_
 exact ⟨hz,its',_,hv,q⟩
theorem Inv.lnew {its:List Value} {t':Nat} (I:Inv X pins σ H s) (hv:aO ys its) (hz:ys.length<=sizeLine) :
  Inv X pins σ (upd H s.heap.objs.size (.lst ys)) { s with heap:=s.heap.push { cls:=.type "list",data:=.seq its.toArray },toks:=t' } :=
 I.laid (fun _ _ q=>Qc _ q) (Qi _) ⟨hz,its,0,hv,Ql _ rfl⟩
theorem Inv.fresh (I:Inv X pins σ H s):H s.heap.objs.size=none:=I.hok.fresh (Qi _)
theorem Inv.lstM (I:Inv X pins σ H s) (hH:H l=some (.lst xs)):xs.length<=sizeLine/\∃ (its:List Value) (n:Nat),aO xs its/\xs.length=its.length/\s.heap.get? l=some { cls:=.type "list",data:=.seq its.toArray n }:=by
 obtain ⟨z,its,n,r,e⟩:=I.hok l _ hH
 exact ⟨z,its,n,r,r.length,e⟩
theorem xZ {n:Nat} (h:n<=sizeLine):Builtin.List.listTooLong n=false:=by
 unfold Builtin.List.listTooLong
 exact decide_eq_false (by omega)
end
section
variable {X:Cx}
def aAv:V->List V->Hp->VK->Prop:=fun x vs H Q=>∃ l xs y,x=.ref l/\vs = [y]/\H l=some (.lst xs)/\xs.length < sizeLine/\Q .non (upd H l (.lst (xs++[y])))
theorem pD:MtM X "list.append" aAv:=by
 intro pins s σ H x vs v us Q I rx rv h
 obtain ⟨l,xs,y,rfl,rfl,hH,hz,q⟩:=h
 cases rx
 obtain ⟨u,rfl,ru⟩:=rv.one
 obtain ⟨z,its,n,r,hl,e⟩:=I.lstM hH
 refine call_meets F.slot_list_append ⟨_,e,rfl⟩ F.entry_list_append (F.args_list_append_2 _ _) (PySem.list_append l its.toArray n u (by rw [Qp]; omega)) ⟨e,?_⟩
 refine ⟨.non,_,I.lset (its':=its++[u]) hH e (by simp) (r.append (.cons ru .nil)) ?_,rfl,q⟩
 rw [Qh,List.length_singleton]
 omega
def aBx:V->List V->Hp->VK->Prop:=fun x vs H Q=>∃ l xs i k y,x=.ref l/\vs = [.int i]/\H l=some (.lst xs)/\-(2^63)<=i/\i < 2^63/\seqIndex? i xs.length=some k/\xs[k]?=some y/\Q y (upd H l (.lst (xs.eraseIdx k)))
theorem sB:MtM X "list.pop" aBx:=by
 intro pins s σ H x vs v us Q I rx rv h
 obtain ⟨l,xs,i,k,y,rfl,rfl,hH,h1,h2,hk,hy,q⟩:=h
 cases rx
 obtain ⟨u,rfl,ru⟩:=rv.one
 obtain ⟨t,rfl⟩:=ru
 obtain ⟨z,its,n,r,hl,e⟩:=I.lstM hH
 obtain ⟨w,hw,rw'⟩:=r.get hy
 refine call_meets F.slot_list_pop ⟨_,e,rfl⟩ F.entry_list_pop (F.args_list_pop_2 _ _)
  (MeetsSeq.list_pop_at l its.toArray n i t k w (fitsIndex_both h1 h2) (by rw [Qp,<- hl]; exact hk) (by rw [<- Array.getElem?_toList]; exact hw) (by rw [Qp]; omega)) ⟨e,?_⟩
 refine ⟨y,_,I.lset (its':=its.eraseIdx k) hH e ?_ (r.eraseIdx k) ?_,rw',q⟩
 ·show its.toArray.eraseIdxIfInBounds k=(its.eraseIdx k).toArray
  rw [List.eraseIdxIfInBounds_toArray]
 ·have:=pC xs k
  omega
def aCX:R2:=fun x y H Q=>∃ l b xs zs,x=.ref l/\y=.ref b/\H l=some (.lst xs)/\H b=some (.lst zs)/\xs.length+zs.length<=sizeLine/\∀ p,H p=none->Q (.ref p) (upd H p (.lst (xs++zs)))
theorem yA:OpR X (binaryOp .Add) aCX:=by
 intro pins s σ H x y v u Q I rx ry h
 obtain ⟨l,b,xs,zs,rfl,rfl,hH,hB,hz,q⟩:=h
 cases rx
 cases ry
 obtain ⟨z,its,n,r,hl,e⟩:=I.lstM hH
 obtain ⟨z2,its2,n2,r2,hl2,e2⟩:=I.lstM hB
 refine PySem.P.add_list e e2 ?_ (by rw [Qp,Qp]; omega)
 have ea:its.toArray++its2.toArray=(its++its2).toArray:=by simp
 rw [ea]
 exact ⟨.ref _,_,I.lnew (t':=s.toks) (r.append r2) (by rw [Qh]; omega),rfl,q _ I.fresh⟩
def aCY:R2:=fun x y H Q=>∃ l k xs,x=.ref l/\y=.int k/\H l=some (.lst xs)/\-(2^63)<=k/\k < 2^63/\xs.length*k.toNat<=sizeLine /\
 ∀ p,H p=none->Q (.ref p) (upd H p (.lst (List.replicate k.toNat xs).flatten))
theorem lI {α:Type} (xs:List α) (k:Nat):(List.replicate k xs).flatten.length=k*xs.length:=by
 induction k with
 | zero=>simp
 | succ k ih=>rw [Xd,Zb,Qh,ih,Yl,Nat.add_comm]
theorem aBy:OpR X (binaryOp .Mult) aCY:=by
 intro pins s σ H x y v u Q I rx ry h
 obtain ⟨l,k,xs,rfl,rfl,hH,h1,h2,hz,q⟩:=h
 cases rx
 obtain ⟨t,rfl⟩:=ry
 obtain ⟨z,its,n,r,hl,e⟩:=I.lstM hH
 have hlen:its.toArray.size*k.toNat<=sizeLine:=by rw [Qp,<- hl]; exact hz
 have hcap:¬ its.toArray.size*k.toNat > (2^63 - 1) / 8:=by
  have:(sizeLine:Nat)<=(2^63 - 1) / 8:=by decide
  omega
 have hfit:¬ (!Builtin.List.listFitsIndex k)=true:=by
  rw [fitsIndex_both h1 h2]
  exact Qt
 have hlong:¬ Builtin.List.listTooLong (its.toArray.size*k.toNat)=true:=by
  rw [xZ hlen]
  exact Qt
 have hnew:List.foldl (fun x1 x2=>x1++x2) #[] (List.replicate (if its.toArray.isEmpty=true then 0 else k.toNat) its.toArray)=(List.replicate k.toNat its).flatten.toArray:=by
  have f0:∀ m:Nat,List.foldl (fun x1 x2=>x1++x2) #[] (List.replicate m its.toArray)=(List.replicate m its).flatten.toArray:=fun m=>by
   have:=iH its m []
   rw [Yc] at this
   exact this
  rw [f0]
  cases its with
  | nil=>simp
  | cons a r'=>rw [if_neg (by simp)]
 refine wpAny_binaryOp_repeat_ref (T := "list") (U := "int") (by decide) ⟨_,e,rfl⟩ (fun s'=>typeIs_int s' k t) noFill_list_mul F.fills_int_mul F.slot_int_rmul repeat_list F.slot_int_index.lookup
  (call_meets F.slot_int_rmul (typeIs_int s k t) F.entry_int_rmul (F.args_int_rmul_2 _ _) (int___rmul___int_list k t l its.toArray n)
   ⟨e,rfl,⟨_,e,rfl⟩,call_meets F.slot_list_mul ⟨_,e,rfl⟩ F.entry_list_mul (F.args_list_mul_2 _ _) (AutoListH.list___mul___list_int_3 l its.toArray n k t hfit hcap hlong) ⟨e,?_⟩⟩)
 rw [hnew]
 exact ⟨.ref _,_,I.lnew (t':=s.toks) (r.rep k.toNat) (by rw [lI,Wj]; exact hz),rfl,q _ I.fresh⟩
end
section
variable {prog:Program} {w:World} {A:Around} {E:Value->Shared->Prop} {s:Shared}
end
section
variable {X:Cx}
end
end L2
namespace Att
open PySem PySem.W PySem.Calls PyProof.Rows
theorem lE {P:Params} {h:Heap}:∀ (ns:List Int) (vs:List Value),WellAll P h vs (ns.map WData.int)->IntsAre vs ns:=by
 intro ns
 induction ns with
 | nil =>
  intro vs w
  rw [Zy] at w
  cases w
  exact .nil
 | cons n ns ih =>
  intro vs w
  rw [Qu] at w
  cases w with
  | cons a b =>
   cases a
   exact .cons _ _ (ih _ b)
theorem wH {l:OpenLaw} {n:Nat} (hn:l.most=some n) {P:Params} {h:Heap} {args:List WData} {vals:List Value}
  (hpre:l.row.toRowW.claim.pre args=true) (hwl:WellAll P h vals args) :
  ∃ a vs ns,vals = [Value.ref a]/\args = [WData.list (ns.map WData.int)]/\h.get? a=some { cls:=.type "list",data:=.seq vs.toArray }/\IntsAre vs ns/\ns.length<=n:=by
 have hsh:WShape.hasAll [] args [.list .int]=true:=(pre_splitW hpre).1
 have hc:l.pre.holds [] { args:=args }=true:=(pre_splitW hpre).2
 obtain ⟨d,r,rfl,h1,h2⟩:=hasAllW_cons hsh
 obtain rfl:=hasAllW_nil h2
 obtain ⟨xs,rfl,h3⟩:=hasW_list h1
 obtain ⟨ns,rfl⟩:=items_int h3
 have hlen:ns.length<=n:=by
  unfold OpenLaw.pre at hc
  have h4:(WTm.not (.lt (.lit (.int (n:Int))) (.len (.arg 0)))).holds [] { args:=[.list (ns.map .int)] }=true:=by
   have h4:=(holds_andW hc).1
   rw [hn] at h4
   exact h4
  have h5:=condW_of h4 (w_not (w_lt w_lit (w_len_list (w_arg rfl))))
  rw [Qd] at h5
  refine Nat.le_of_not_lt fun q=>?_
  have q':(n:Int) < ((ns.length:Nat):Int):=by omega
  first
   | (rw [decide_eq_true q'] at h5; exact absurd h5 (by decide))
   | (simp at h5; omega)
 cases hwl with
 | cons w1 w2 =>
  cases w2
  cases w1 with
  | list ho hall=>exact ⟨_,_,ns,rfl,rfl,ho,lE ns _ hall,hlen⟩
theorem wI (l:OpenLaw) (args:List WData):l.row.toRowW.claim.post args (.bool true) args=true :=
 postW_of (r:=l.row.toRowW) (X:=(true==true))
  (show WShape.has [] (.bool true) .bool=true by first | rfl | decide | simp [WShape.has,WShape.arms,WShape.armsAll])
  (show (WTm.eq .res (.lit (.bool true))).value [] { args:=args,res:=some (.bool true),after:=args }=some (.bool (true==true)) from w_eq_bool (w_res rfl) w_lit) rfl
theorem attach_call {l:OpenLaw} {n:Nat} {q:Program} {loose:List Str} {XP:(Str->Option Value)->Heap->Prop} {YP:World->Heap->Prop} {d:DefRec}
  (hn:l.most=some n) (hdf:d.params.defaults = [])
  (call:∀ (w:World) (s₀ s₁:Shared) (mg mb:Str->Option Value) (fa:Addr) (o:Obj) (pm cd doc:Value) (a:Addr) (vs:List Value) (ns:List Int),
   Ground q loose [] XP w s₀ mg mb s₁.heap->YP w s₁.heap ->
   s₁.heap.get? fa=some o->o.data=.func (docDef d.name d.params d.body d.scope pm cd doc)->s₁.heap.CodeRec cd d.name->mg d.name=some (.ref fa) ->
   s₁.heap.get? a=some { cls:=.type "list",data:=.seq vs.toArray }->IntsAre vs ns->ns.length<=n->s₁.gens = #[] ->
   codeAny (model l.prog w) callerA (.call (.ref fa) ⟨[.ref a],[]⟩) (fun r s'=>r=.ok (.ret (.bool true))/\OldK s₁.heap s'.heap/\s'.os=s₁.os/\AllBare s'.gens) s₁) :
  WalkO q loose XP YP l.row.toRowW d [] (fun f vs=>PySem.call f vs):=by
 intro w s₀ s₁ mg mb G Y fa o pm cd doc dV kV ho hd hcd hD hmg hg args vals as hpre hlay hrd hwl hlo
 obtain rfl:dV=.none:=Dflts.none hD hdf
 obtain rfl:kV=.none:=Dflts.noKw hD
 obtain ⟨a,vs,ns,rfl,rfl,hobj,hints,hlen⟩:=wH hn hpre hwl
 refine enter_call (codeAny_mono (call w s₀ s₁ mg mb fa o pm cd doc a vs ns G Y ho (fd_plain hd) hcd hmg hobj hints hlen hg) fun r s' hq=>?_)
 obtain ⟨rfl,h2,h3,h4⟩:=hq
 exact ⟨.inl ⟨.bool true,.bool true,[],rfl,fun _=>rfl,.bool true,wI l _,fun _=>⟨List.Pairwise.nil,fun _ hm=>(nomatch hm)⟩⟩,h2,h3,h4⟩
section
variable {prog:Program} {w:World} {A:Around} {E:Value->Shared->Prop} {s:Shared} {K:Frag}
end
end Att
namespace L2
open PySem PySem.Spec PyProof.Rows
theorem pE:∀ {vs:List Value} {ns:List Int},IntsAre vs ns->aO (ns.map V.int) vs
 := by
 intro vs ns h
 induction h with
 | nil=>exact .nil
 | cons n t h ih=>exact .cons ⟨t,rfl⟩ ih
def eA (s:Stmt):Arguments:=match s with
 | .FunctionDef _ a _ _ _ _ _ _ _ _=>a
 | _=>{ posonlyargs:=[],args:=[],vararg:=none,kwonlyargs:=[],kw_defaults:=[],kwarg:=none,defaults:=[] }
def cU (s:Stmt):List Stmt:=match s with
 | .FunctionDef _ _ b _ _ _ _ _ _ _=>b
 | _=>[]
def aI (s:Stmt):Scope:=match s with
 | .FunctionDef _ _ _ _ _ _ sc _ _ _=>sc
 | _=>{ kind:=.function,names:=[],isGenerator:=false,isCoroutine:=false }
abbrev CX0:CXT:=fun _ _ _ _ _ _=>False
abbrev E0:XK:=fun _ _ _=>False
theorem bD {X:Cx}:jB CX0 X E0:=fun _ _ _ _ _ _ _ h=>h.elim
structure Fun (K:PySem.W.Frag) (x qual:Str) (st:Stmt) (f:Addr) (fd:FuncData):Prop where
 ex:∃ (oc:Value) (od:Option Addr) (kV doc pm:Value) (an:Option Addr) (cdv ct:Value) (osl:Array (Option Value)),
  fd=PySem.W.fnOf x qual (eA st) (cU st) (aI st) .none kV doc pm an cdv ct/\K.lookup f=some ⟨oc,od,.func fd,osl⟩/\PySem.W.codeIn K cdv qual=true
 kp:PySem.W.keepIn K (.ref f)=true
section
variable {P:Program} {w:World} {K:PySem.W.Frag} {mg:Str->Option Value} {base:Heap}
theorem Fun.ok {x qual:Str} {st:Stmt} {f:Addr} {fd:FuncData} {N ps:List Str} {k:Nat} {sp:Sp} (F:Fun K x qual st f fd) (S:FnScope N ps (aI st)) (len:∀ vs H Q E,sp vs H Q E->vs.length=ps.length)
  (hbody:∀ (cdv:Value) (A:Around) (outer:List Env) (s:Shared) (H:Hp) (vs:List V) (Q:VK) (E:XK),Room k (A.deeper (envOfC qual (aI st) s.heap.objs.size f cdv))->sp vs H Q E ->
   ∃ t,PSs (uB CX0 P w K mg base N qual (aI st) f cdv A outer s H E).nox (cU st) t/\t { nx:=fun _ H'=>Q .non H',rt:=Q } (jI N vs) H):FnOk P w K mg base CX0 (k+1) f fd ps sp:=by
 obtain ⟨oc,od,kV,doc,pm,an,cdv,ct,osl,rfl,lk,hcd⟩:=F.ex
 refine aA4 lk hcd S len fun A outer s H vs Q E hr hsp=>?_
 obtain ⟨t,h,q⟩:=hbody cdv A outer s H vs Q E hr hsp
 exact ⟨t,h.nox,q⟩
theorem Fun.binds {x qual:Str} {st:Stmt} {f:Addr} {fd:FuncData} {ps:List Str} (F:Fun K x qual st f fd)
  (h:∀ (kV doc pm:Value) (an:Option Addr) (cdv ct:Value) (us:List Value),us.length=ps.length->bindArgs (PySem.W.fnOf x qual (eA st) (cU st) (aI st) .none kV doc pm an cdv ct) ⟨us,[]⟩=pure (ps.zip us)):gR K fd ps []:=by
 obtain ⟨oc,od,kV,doc,pm,an,cdv,ct,osl,rfl,lk,hcd⟩:=F.ex
 exact .all (h kV doc pm an cdv ct)
theorem uD {x qual:Str} {st:Stmt} {f:Addr} {oc:Value} {od an:Option Addr} {osl:Array (Option Value)} {kV doc pm cdv ct:Value} (l:K.lookup f=some ⟨oc,od,.func (PySem.W.fnOf x qual (eA st) (cU st) (aI st) .none kV doc pm an cdv ct),osl⟩)
  (c:PySem.W.codeIn K cdv qual=true) (k:PySem.W.keepIn K (.ref f)=true):Fun K x qual st f (PySem.W.fnOf x qual (eA st) (cU st) (aI st) .none kV doc pm an cdv ct):=⟨⟨oc,od,kV,doc,pm,an,cdv,ct,osl,rfl,l,c⟩,k⟩
end
theorem fP {A:Around} {k:Nat} (hr:Room k A):A.units+1 < cLine:=Zk (Nat.add_le_add_left (by decide:1<=64) _) hr.units
section
variable {X:Cx}
theorem pv (i:Nat) {x:Str} {pos:Pos} (hN:X.N[i]?=some x:=by rfl) (hv:Vis X.env.scope x:=by first | exact Or.inl rfl | exact Or.inr (Or.inl rfl) | exact Or.inr (Or.inr rfl)) (hd:(x==("__debug__" : Str))=false:=by decide)
  (hcd:(x==("__classdict__" : Str))=false:=by decide):PE X (.Name x pos) (rR i):=aBk hN hv hd hcd
end
theorem uE {A B:Prop} (h:B):if false=true then A else B:=by
 rw [if_neg Qt]
 exact h
theorem oN {A B:Prop} (h:A):if true=true then A else B:=by
 rw [if_pos rfl]
 exact h
theorem gM {c A B:Prop} [Decidable c] (h1:c->A) (h2:¬ c->B):if c then A else B:=by
 by_cases h:c
 ·rw [if_pos h]
  exact h1 h
 ·rw [if_neg h]
  exact h2 h
def aG (H H':Hp):Prop:=∀ b o,H b=some o->H' b=some o
theorem aG.refl (H:Hp):aG H H:=fun _ _ h=>h
theorem aG.trans {H H1 H2:Hp} (a:aG H H1) (b:aG H1 H2):aG H H2:=fun c o h=>b c o (a c o h)
theorem aG.free {H H':Hp} (e:aG H H') {l:Addr} (h:H' l=Option.none):H l=Option.none:=by
 cases q:H l with
 | none=>rfl
 | some o =>
  rw [e l o q] at h
  cases h
theorem aG.seq {K:PySem.W.Frag} {H H':Hp} {a:Addr} {xs:List V} (e:aG H H') (h:SqL K H a xs):SqL K H' a xs:=by
 rcases h with (h | ⟨o,h⟩) | h
 ·exact .inl (.inl (e _ _ h))
 ·exact .inl (.inr ⟨o,e _ _ h⟩)
 ·exact .inr h
def cJ (env:Env):List (Str×NameKind)->List (Str×Addr)->List (Str×Addr)
 | [],acc=>acc
 | (n,k)::r,acc=>if k==.free then (match env.cells.lookup n with | some c=>cJ env r ((n,c)::acc) | none=>cJ env r acc) else cJ env r acc
theorem sC {env:Env}:∀ (names:List (Str×NameKind)) (acc:List (Str×Addr)),(∀ y∈names,y.2=.free->∃ c,env.cells.lookup y.1=some c) ->
  (forIn names acc fun (x:Str×NameKind) (r:List (Str×Addr))=>(match x with
   | (name,kind)=>if (kind==NameKind.free)=true then (do let a<-cellOf env name; pure (ForInStep.yield ((name,a)::r))) else pure (ForInStep.yield r):Sem (ForInStep (List (Str×Addr)))))=(pure (cJ env names acc):Sem _)
 | [],acc,_=>rfl
 | (n,k)::r,acc,h=>by
  have ih:=fun acc=>sC r acc fun y hy=>h y (Qq _ hy)
  rw [Yd]
  by_cases hk:(k==NameKind.free)=true
  ·obtain ⟨c,hc⟩:=h (n,k) Qr (by simpa using hk)
   have e1:cJ env ((n,k)::r) acc=cJ env r ((n,c)::acc):=by
    show (if k==.free then _ else _)=_
    rw [if_pos hk]; simp only at hc; rw [hc]
   simp only at hc
   rw [e1,<- ih]
   simp only [hk,if_true,cellOf,hc]
   rfl
  ·have e1:cJ env ((n,k)::r) acc=cJ env r acc:=by
    show (if k==.free then _ else _)=_
    rw [if_neg hk]
   rw [e1,<- ih]
   simp only [hk,if_false]
   rfl
theorem uF {env:Env} {scope:Scope} (h:∀ y∈scope.names,y.2=.free->∃ c,env.cells.lookup y.1=some c):closureFor scope env=pure (cJ env scope.names []):=by
 unfold closureFor
 have e:=sC scope.names [] h
 show (forIn scope.names [] _ >>= _)=_
 exact (congrArg (fun z=>z >>= fun r=>pure r) e).trans rfl
theorem fQ {env:Env}:∀ (names:List (Str×NameKind)) (acc:List (Str×Addr)) (n:Str) (c:Addr),(n,c)∈cJ env names acc->(n,c)∈acc∨env.cells.lookup n=some c
 | [],_,_,_,h=>.inl h
 | (m,k)::r,acc,n,c,h=>by
  by_cases hk:(k==NameKind.free)=true
  ·rw [show cJ env ((m,k)::r) acc=(match env.cells.lookup m with | some c=>cJ env r ((m,c)::acc) | none=>cJ env r acc) from if_pos hk] at h
   cases e:env.cells.lookup m with
   | none=>rw [e] at h; exact fQ r acc n c h
   | some d =>
    rw [e] at h
    rcases fQ r _ n c h with q | q
    ·rcases Qs.mp q with q | q
     ·cases q; exact .inr e
     ·exact .inl q
    ·exact .inr q
  ·rw [show cJ env ((m,k)::r) acc=cJ env r acc from if_neg hk] at h
   exact fQ r acc n c h
theorem gS {env:Env}:∀ (names:List (Str×NameKind)) (acc:List (Str×Addr)) (n:Str),((∃ c,(n,c)∈acc)∨((n,NameKind.free)∈names/\∃ c,env.cells.lookup n=some c))->∃ c,(n,c)∈cJ env names acc
 | [],_,_,h=>by
  rcases h with h | ⟨h,_⟩
  ·exact h
  ·cases h
 | (m,k)::r,acc,n,h=>by
  by_cases hk:(k==NameKind.free)=true
  ·rw [show cJ env ((m,k)::r) acc=(match env.cells.lookup m with | some c=>cJ env r ((m,c)::acc) | none=>cJ env r acc) from if_pos hk]
   cases e:env.cells.lookup m with
   | none =>
    refine gS r acc n ?_
    rcases h with h | ⟨h,c,hc⟩
    ·exact .inl h
    ·rcases Qs.mp h with h | h
     ·cases h; rw [e] at hc; cases hc
     ·exact .inr ⟨h,c,hc⟩
   | some d =>
    refine gS r _ n ?_
    rcases h with ⟨c,h⟩ | ⟨h,c,hc⟩
    ·exact .inl ⟨c,Qq _ h⟩
    ·rcases Qs.mp h with h | h
     ·cases h; exact .inl ⟨d,Qr⟩
     ·exact .inr ⟨h,c,hc⟩
  ·rw [show cJ env ((m,k)::r) acc=cJ env r acc from if_neg hk]
   refine gS r acc n ?_
   rcases h with h | ⟨h,c,hc⟩
   ·exact .inl h
   ·rcases Qs.mp h with h | h
    ·cases h; exact absurd rfl hk
    ·exact .inr ⟨h,c,hc⟩
theorem eD {β:Type}:∀ {l:List (Str×β)} {a:Str} {b:β},l.lookup a=some b->(a,b)∈l:=PySem.mem_of_lookup_some
theorem gT {β:Type}:∀ {l:List (Str×β)} {a:Str} {b:β},(a,b)∈l->∃ c,l.lookup a=some c
 | (k,v)::l,a,b,h=>by
  rw [Jv]
  by_cases e:(a==k)=true
  ·rw [e]; exact ⟨v,rfl⟩
  ·have e':(a==k)=false:=by simpa using e
   rw [e']
   rcases Qs.mp h with h | h
   ·cases h; simp at e
   ·exact gT h
theorem eR {env:Env} (x:Str):∀ (names:List (Str×NameKind)),
  (names.map fun (n,k)=>if (k==NameKind.free && env.scope.kind==.function && env.kindOf n==some .cell) then (n,NameKind.cell) else (n,k)).lookup x =
   (names.lookup x).map fun k=>if (k==NameKind.free && env.scope.kind==.function && env.kindOf x==some .cell) then NameKind.cell else k
 | []=>rfl
 | (n,k)::r=>by
  have ih:=eR (env:=env) x r
  rw [Qu]
  by_cases e:(x==n)=true
  ·have en:x=n:=by simpa using e
   subst en
   dsimp only
   by_cases c:(k==NameKind.free && env.scope.kind==.function && env.kindOf x==some .cell)=true
   ·rw [if_pos c,Jv,Jv,e]
    simp only [Xq,c,if_true]
   ·rw [if_neg c,Jv,Jv,e]
    simp only [Xq,c]
    rfl
  ·have e':(x==n)=false:=by simpa using e
   dsimp only
   by_cases c:(k==NameKind.free && env.scope.kind==.function && env.kindOf n==some .cell)=true
   ·rw [if_pos c,Jv,Jv,e']; exact ih
   ·rw [if_neg c,Jv,Jv,e']; exact ih
def aL (X:Cx) (scope:Scope) (N:List Str) (C:Addr) (s0:Shared) (H0:Hp) (fp:List Addr):Cx where
 prog:=X.prog
 w:=X.w
 K:=X.K
 mg:=X.mg
 base:=X.base
 A:=X.A
 N:=N
 s₀:=s0
 H₀:=H0
 env:=compEnvC scope (cJ X.env scope.names []) C X.env
 outer:=X.stack
 stack:=X.stack
 ex:=fp
 fn:=fun _=>false
 calm:=X.calm
 pn:=[]
 xe:=fun _ _=>False
def kG (sc scope:Scope) (own:List Str) (frn:List Str):Bool :=
 scope.kind==.function && scope.names.all (fun y=>y.2 !=.cell) && scope.names.all (fun y=>y.2 !=.local || scope.names.lookup y.1==some .local) &&
 scope.names.all (fun y=>y.2 !=.free || sc.names.lookup y.1==some .cell || sc.names.lookup y.1==some .free) && decide (own++frn).Nodup &&
 own.all (fun x=>scope.names.lookup x==some .local) && frn.all (fun x=>scope.names.lookup x==some .free)
def blk (own:Nat) (fr:List Nat) (σ:St):St:=List.replicate own none++fr.map fun j=>(σ[j]?).join
structure CompOk (X:Cx) (scope:Scope) (own:List Str) (fr:List Nat) (frn:List Str):Prop where
 ck:kG X.env.scope scope own frn=true
 ix:∀ (k:Nat) (x:Str),frn[k]?=some x->∃ j:Nat,fr[k]?=some j/\X.N[j]?=some x
 len:fr.length=frn.length
section
variable {X:Cx} {scope:Scope} {own frn:List Str} {fr:List Nat}
theorem CompOk.parts (S:CompOk X scope own fr frn):scope.kind=.function/\(∀ y∈scope.names,y.2≠.cell)/\(∀ y∈scope.names,y.2=.local->scope.names.lookup y.1=some .local) /\
  (∀ y∈scope.names,y.2=.free->X.env.scope.names.lookup y.1=some .cell∨X.env.scope.names.lookup y.1=some .free)/\(own++frn).Nodup/\(∀ x∈own,scope.names.lookup x=some .local)/\∀ x∈frn,scope.names.lookup x=some .free:=by
 have h:=S.ck
 unfold kG at h
 simp only [Ju,Xg,decide_eq_true_eq,Bool.or_eq_true,bne_iff_ne,ne_eq,beq_iff_eq] at h
 obtain ⟨⟨⟨⟨⟨⟨h1,h2⟩,h3⟩,h4⟩,h5⟩,h6⟩,h7⟩:=h
 refine ⟨h1,h2,fun y hy e=>?_,fun y hy e=>?_,h5,h6,h7⟩
 ·rcases h3 y hy with z | z
  ·exact absurd e z
  ·exact z
 ·rcases h4 y hy with (z | z) | z
  ·exact absurd e z
  ·exact .inl z
  ·exact .inr z
theorem uG (S:CompOk X scope own fr frn) (σ:St):(blk own.length fr σ).length=(own++frn).length:=by
 unfold blk
 rw [Qh,Qh,Xc,Qd,S.len]
theorem sD {pins:List (Addr×Obj)} {σ:St} {H:Hp} {s:Shared} {fp:List Addr} {h1:Heap} {tk:Nat} {C D:Addr} {oD:Obj} {m:Str->Option Value} (I:Inv X pins σ H s) (S:CompOk X scope own fr frn)
  (hfp:∀ b∈fp,kC X pins H b) (hlt:∀ b∈fp,b < s.heap.objs.size) (hC:s.heap.objs.size<=C) (hn:h1.Ns C m) (hk:∀ b o,s.heap.get? b=some o->h1.get? b=some o)
  (hD:s.heap.objs.size<=D) (hDC:D≠C) (hoD:h1.get? D=some oD) (hdD:∀ v,oD.data≠.cell v) :
  Inv (aL X scope (own++frn) C s H fp) [(D,oD)] (blk own.length fr σ) H { s with heap:=h1,toks:=tk }:=by
 obtain ⟨p1,p2,p3,p4,p5,p6,p7⟩:=S.parts
 have below:∀ b,b < s.heap.objs.size->b≠C:=fun b hb z=>Jn _ (Qo (z ▸ hb) hC)
 have clsub:∀ x c,(cJ X.env scope.names []).lookup x=some c->X.env.cells.lookup x=some c:=fun x c e=>by
  rcases fQ _ _ _ _ (eD e) with q | q
  ·cases q
  ·exact q
 have clt:∀ x c,X.env.cells.lookup x=some c->c < s.heap.objs.size:=fun x c e=>by
  obtain ⟨v,q⟩:=I.cell x c e
  exact q.lt
 have nstk:∀ b∈fp,b∉frs X.stack:=fun b hb z=>by
  obtain ⟨_,f1,f2,_⟩:=hfp b hb
  rcases Qs.mp (I.stkSub b z) with e | e
  ·exact f1 e
  ·exact f2 e
 have Dfs:D∉frs X.stack:=fun z=>by
  have q:=I.stkSub D z
  rcases Qs.mp q with e | e
  ·exact Jn _ (Qo (e ▸ I.lt:D < _) hD)
  ·exact I.nofs hD e
 refine ⟨⟨I.ok.mod,p1,I.ok.glob,I.ok.blt,hC,fun x y c e1 e2=>I.ok.inj x y c (clsub x c e1) (clsub y c e2),fun x hx=>?_,fun x c e=>absurd e (by show ¬ (false=true); decide),I.ok.hd,I.ok.frames,.inl rfl,fun b hb=>?_,I.bs,Ja I.ok.bsz I.sz,fun b o e hb=>?_,nstk,I.stack,I.stkFree⟩,
  rfl,I.bare,Un.kept hk,⟨m,hn,fun i x v e1 e2 e3=>?_⟩,fun x c e=>?_,I.hok.fresh hC,fun x c e=>I.freeC x c (clsub x c e),fun p hp=>?_,I.hok.kept hk,uG S σ⟩
 ·-- has
  have hx':(relabel scope X.env).names.lookup x=some .cell∨(relabel scope X.env).names.lookup x=some .free:=hx
  have hl:(relabel scope X.env).names.lookup x=_:=eR (env:=X.env) x scope.names
  rw [hl] at hx'
  cases e:scope.names.lookup x with
  | none =>
   rw [e] at hx'
   rcases hx' with z | z <;> cases z
  | some k =>
   have hmem:=eD e
   have hkf:k=.free:=by
    rw [e] at hx'
    simp only [Xq,Option.some.injEq] at hx'
    by_cases c:(k==NameKind.free && X.env.scope.kind==.function && X.env.kindOf x==some .cell)=true
    ·simp only [Ju,beq_iff_eq] at c
     exact c.1.1
    ·rw [if_neg c] at hx'
     rcases hx' with z | z
     ·exact absurd z (p2 _ hmem)
     ·exact z
   subst hkf
   obtain ⟨c,hc⟩:=I.ok.has x (p4 _ hmem rfl)
   obtain ⟨c',hc'⟩:=gS (env:=X.env) scope.names [] x (.inr ⟨hmem,c,hc⟩)
   exact gT hc'
 ·-- exf
  refine ⟨below b (hlt b hb),fun x c e=>?_⟩
  exact (hfp b hb).2.2.2.2.1 x c (clsub x c e)
 ·-- noex
  rcases (hfp b hb).2.2.2.1 with z | z
  ·exact I.ok.noex b o e z
  ·exact absurd (Qo (Qk (I.ok.bs b o e).1) z) (Jn _)
 ·-- loc
  show ∃ u,aQ v u/\aBZ _ _ _ x u
  have e1':(own++frn)[i]?=some x:=e1
  have e2':(blk own.length fr σ)[i]?=some (some v):=e2
  unfold blk at e2'
  by_cases hi:i < own.length
  ·rw [Qj (by simpa using hi),Xr] at e2'
   rw [if_pos hi] at e2'
   cases e2'
  ·rw [Qv (by simpa using hi)] at e2'
   rw [Qv (by omega)] at e1'
   rw [Xc,Qg] at e2'
   obtain ⟨j,hj1,hj2⟩:=S.ix _ _ e1'
   rw [hj1] at e2'
   simp only [Xq,Option.some.injEq] at e2'
   have hσ:σ[j]?=some (some v):=by
    cases q:σ[j]? with
    | none=>rw [q] at e2'; cases e2'
    | some w=>rw [q] at e2'; exact congrArg some e2'
   have hfree:=p7 x (Qe e1')
   have hmem:=eD hfree
   have kx:=p4 _ hmem rfl
   have vis:Vis X.env.scope x:=by
    rcases kx with z | z
    ·exact .inr (.inl z)
    ·exact .inr (.inr z)
   obtain ⟨m0,hn0,hl0⟩:=I.loc
   obtain ⟨u,ru,lk⟩:=hl0 j x v hj2 hσ vis
   refine ⟨u,ru,.inr ⟨?_,?_⟩⟩
   ·show (relabel scope X.env).names.lookup x=some .cell∨(relabel scope X.env).names.lookup x=some .free
    have hl:(relabel scope X.env).names.lookup x=_:=eR (env:=X.env) x scope.names
    rw [hl,hfree]
    simp only [Xq,Option.some.injEq]
    by_cases c:(NameKind.free==NameKind.free && X.env.scope.kind==.function && X.env.kindOf x==some .cell)=true
    ·rw [if_pos c]; exact .inl rfl
    ·rw [if_neg c]; exact .inr rfl
   ·rcases lk with ⟨kl,_⟩ | ⟨_,c,hc,hcell⟩
    ·have kl':X.env.scope.names.lookup x=some .local:=kl
     rcases kx with z | z <;> (have z':X.env.scope.names.lookup x=_:=z; rw [kl'] at z'; cases z')
    ·obtain ⟨c',hc'⟩:=gS (env:=X.env) scope.names [] x (.inr ⟨hmem,c,hc⟩)
     obtain ⟨c2,hc2⟩:=gT hc'
     have ec:c2=c:=by
      have:=clsub x c2 hc2
      rw [hc] at this
      exact (Option.some.inj this).symm
     subst ec
     obtain ⟨oc,ho,hd⟩:=hcell
     exact ⟨c2,hc2,oc,hk _ _ ho,hd⟩
 ·obtain ⟨v,o,ho,hd⟩:=I.cell x c (clsub x c e)
  exact ⟨v,o,hk _ _ ho,hd⟩
 ·have hp':p∈([]:List (Addr×Obj))++[(D,oD)]:=hp
  simp only [Yc,Qm] at hp'
  subst hp'
  exact ⟨hoD,I.hok.fresh hD,hDC,Dfs,hdD⟩
end
theorem sE {prog:Program} {w:World} {A:Around} {R:Result->Shared->Prop} {s:Shared} {elt target iter:Expr} {ifs:List Expr} {scope:Scope} {pos:Pos} {it acc:Value} {env:Env} (I:Nat->Shared->Prop)
  (turn:∀ n s,I n s->wpAny (model prog w) A (pyNext it) (fun r s₁=>match r with
   | none=>R (.ok .next) s₁
   | some v=>wpAny (model prog w) A (letOwnedTupleGo target it v) (fun _ s₁'=>wpAny (model prog w) A (assign target env v) (fun _ s₂ =>
     wpAny (model prog w) A (forIn ifs true fun c r=>if r=true then do let ok<-isTrue c env (eval c env); pure (ForInStep.yield ok) else pure (ForInStep.yield r)) (fun ok s₃ =>
      if ok=true then wpAny (model prog w) A (eval elt env) (fun x s₄ =>
       wpAny (model prog w) A (call (.builtin "list.append") [acc,x]) (fun _ s₅=>∃ m,m < n/\I m s₅) (fun _ _=>False) s₄) (fun _ _=>False) s₃
      else ∃ m,m < n/\I m s₃) (fun _ _=>False) s₂) (fun _ _=>False) s₁') (fun _ _=>False) s₁) (fun _ _=>False) s)
  (n:Nat) (h:I n s) :
  codeAny (model prog w) A (.compLoop (.ListComp elt [⟨target,iter,ifs,0⟩] scope pos) 0 it acc env) R s:=by
 refine codeAny_loop rfl I (fun n s hI=>?_) n h
 show wpAny _ A ((compTurn (.ListComp elt [⟨target,iter,ifs,0⟩] scope pos) 0 it acc env).onRaise (fun x=>do noteFrame x env; theTreesLotGoes x)) _ _ s
 refine wpAny_noted ?_
 rw [compTurn_list]
 refine wpAny_bind (wpAny_standAt (wpAny_bind (wpAny_mono (turn n s hI) (fun r s₁ h₁=>?_) fun _ _ h'=>h'.elim)))
 cases r with
 | none=>exact wpAny_pure h₁
 | some v =>
  refine wpAny_bind (wpAny_mono h₁ (fun _ s₁' h₁'=>?_) fun _ _ h'=>h'.elim)
  refine wpAny_bind (wpAny_mono h₁' (fun _ s₂ h₂=>wpAny_bind (wpAny_mono h₂ (fun ok s₃ h₃=>?_) fun _ _ h'=>h'.elim)) fun _ _ h'=>h'.elim)
  cases ok with
  | false=>exact wpAny_pure ⟨rfl,h₃⟩
  | true =>
   exact wpAny_bind (wpAny_bind (wpAny_mono h₃ (fun x s₄ h₄=>wpAny_bind (wpAny_mono h₄ (fun _ s₅ h₅=>wpAny_pure (wpAny_pure ⟨rfl,h₅⟩)) fun _ _ h'=>h'.elim)) fun _ _ h'=>h'.elim))
def PF (X:Cx) (ifs:List Expr) (t:TT):Prop :=
 ∀ (pins:List (Addr×Obj)) (s:Shared) (σ:St) (H:Hp) (Q:Bool->Hp->Prop),Inv X pins σ H s->t σ H Q ->
  wpAny (model X.prog X.w) X.A (forIn ifs true fun c r=>if r=true then do let ok<-isTrue c X.env (eval c X.env); pure (ForInStep.yield ok) else pure (ForInStep.yield r)) (TP X pins σ Q) X.xe s
def aCj:TT:=fun _ H Q=>Q true H
theorem gU {X:Cx}:PF X [] aCj:=fun _ _ _ H _ I h=>wpAny_tests_nil ⟨H,I,h⟩
theorem aBz {X:Cx} {c:Expr} {t:TT} (h:PT X c t):PF X [c] t:=fun pins s σ H Q I hq=>wpAny_tests_one (h pins s σ H Q I hq)
def aA5 (own:Nat) (fr:List Nat) (wi:TI) (g:TG) (tt:TT) (te:TE):TE:=fun σ H Q=>wi σ H fun J H1=>∃ W:Nat->Nat->List V->St->Hp->Prop,(∃ m,W 0 m [] (blk own fr σ) H1)/\∀ i m ys σ' H,W i m ys σ' H ->
 (J.stop i H/\∀ p,H p=none->Q (.ref p) (upd H p (.lst ys))) ∨
 (J.go i H/\∃ N:List V->St->Hp->Prop,(∀ ys' σ2 H2,N ys' σ2 H2->∃ m',m' < m/\W (i+1) m' ys' σ2 H2) /\
  ∀ x H',J.yld i H x H'->g x σ' H' fun σ2 H2=>tt σ2 H2 fun b H3=>if b=true then te σ2 H3 fun y H4=>ys.length < sizeLine/\N (ys++[y]) σ2 H4 else N ys σ2 H3)
section
variable {X:Cx} {scope:Scope} {own frn:List Str} {fr:List Nat} {elt tg iter:Expr} {ifs:List Expr} {pos:Pos} {wi:TI} {g:TG} {tt:TT} {te:TE}
theorem Inv.track {pins:List (Addr×Obj)} {σ:St} {H:Hp} {s:Shared} {D:Addr} {ys:List V} {its:Array Value} (I:Inv X pins σ H s) (hD:s.heap.PlainList D its) (hv:aO ys its.toList) (hz:ys.length<=sizeLine) (hn:H D=none) (hL:D≠X.env.locals)
  (h1:X.s₀.heap.objs.size<=D) (h2:∀ x c,X.env.cells.lookup x=some c->c≠D) (h3:∀ p∈X.pn++pins,p.1≠D):Inv X pins σ (upd H D (.lst ys)) s:=by
 have ne:∀ b u,H b=some u->b≠D:=fun b u e z=>by rw [z,hn] at e; cases e
 refine I.step (g':=s.gens) (d':=s.drawn) (t':=s.toks) (h':=s.heap) (ch:=[D]) (fun b hb=>?_) (fun b o _ _ _ e _=>e) (fun b o _ _ _ e _=>⟨o.slots,e⟩) (fun b o hc _ n=>?_) (fun b o _ e=>⟨o,e⟩)
  (fun b xs e=>by rw [aD (ne b _ e)]; exact e) (fun b o u e=>by rw [aD (ne b _ e)]; exact e) (fun b ps e=>⟨#[],by rw [aD (ne b _ e),e]; simp⟩) (fun _ h=>h) (fun b u e=>?_) I.bare
 ·have e:b=D:=by simpa using hb
  subst e
  exact ⟨.inr h1,hL,h2,h3⟩
 ·rw [aD (by simpa using hc)]; exact n
 ·by_cases hb:b=D
  ·subst hb
   rw [aA] at e; cases e
   obtain ⟨n,e⟩:=hD
   exact ⟨hz,its.toList,n,hv,by simpa using e⟩
  ·rw [aD hb] at e
   exact (I.hok b u e).stay (fun c v _ q=>q) (fun c q=>by rw [aD (ne c _ q)]; exact q) fun c xs q=>by rw [aD (ne c _ q)]; exact q
theorem mJ {pins:List (Addr×Obj)} {σ:St} {H2:Hp} {s2:Shared} {it:Addr} {fp:List Addr} {tn:Nat->Heap->Prop} {J:It} {RR:Value->Addr->Result->Shared->Prop} {E:Value->Shared->Prop} {Q:Hp->List V->Prop}
  (S:CompOk X scope own fr frn) (hc:X.calm=true) (I2:Inv X pins σ H2 s2) (T:Turn X.prog X.w X.K tg J fp it tn) (st2:tn 0 s2.heap) (f2:∀ b∈fp,kC X pins H2 b)
  (hg:∀ C s0 H0 fp,PG (aL X scope (own++frn) C s0 H0 fp) tg g) (ht:∀ C s0 H0 fp,PF (aL X scope (own++frn) C s0 H0 fp) ifs tt) (he:∀ C s0 H0 fp,PE (aL X scope (own++frn) C s0 H0 fp) elt te)
  (w:∃ W:Nat->Nat->List V->St->Hp->Prop,(∃ m,W 0 m [] (blk own.length fr σ) H2)/\∀ i m ys σ' H,W i m ys σ' H ->
   (J.stop i H/\Q H ys) ∨
   (J.go i H/\∃ N:List V->St->Hp->Prop,(∀ ys' σ2 H2,N ys' σ2 H2->∃ m',m' < m/\W (i+1) m' ys' σ2 H2) /\
    ∀ x H',J.yld i H x H'->g x σ' H' fun σ2 H2=>tt σ2 H2 fun b H3=>if b=true then te σ2 H3 fun y H4=>ys.length < sizeLine/\N (ys++[y]) σ2 H4 else N ys σ2 H3))
  (hRR:∀ (C D:Addr) (s':Shared) (H':Hp) (ys:List V) (its:Array Value) (m:Str->Option Value),s2.heap.objs.size<=C->s2.heap.objs.size<=D->D≠C->s'.heap.Ns C m->H' C=none->H' D=none->s'.heap.PlainList D its->aO ys its.toList->ys.length<=sizeLine ->
   Inv X pins σ H' s'->Q H' ys->RR (.ref D) C (.ok .next) s') :
  wpAny (model X.prog X.w) X.A (newList []) (fun acc s₃=>wpAny (model X.prog X.w) X.A (newFunctionEnv scope X.env.globals (cJ X.env scope.names []) [] X.env.qual none .none (some X.env)) (fun cenv s₄ =>
   codeAny (model X.prog X.w) X.A (.compStart (.ListComp elt [⟨tg,iter,ifs,0⟩] scope pos) 0 (.ref it) acc { cenv with scope:=relabel scope X.env }) (RR acc cenv.locals) s₄) E s₃) E s2:=by
 obtain ⟨p1,p2,p3,p4,p5,p6,p7⟩:=S.parts
 obtain ⟨W,⟨m0,w0⟩,turn⟩:=w
 refine wpAny_newObj_type (wpAny_newFunctionEnv p2 (by intro y hy; simp at hy) (fun h₁ hns₁ hsb₁=>?_) p1)
 dsimp only at hns₁ hsb₁ ⊢
 generalize hH2:s2.heap.push { cls:=.type "list",dict:=none,data:=.seq ([]:List Value).toArray }=HD at hns₁ hsb₁ ⊢
 have hCs:HD.objs.size=s2.heap.objs.size+1:=by rw [<- hH2,Xa]
 have hDC:s2.heap.objs.size≠HD.objs.size:=by omega
 have hCle:s2.heap.objs.size<=HD.objs.size:=by omega
 have below:∀ b,b < s2.heap.objs.size->b≠HD.objs.size/\b≠s2.heap.objs.size:=fun b hb=>⟨by omega,by omega⟩
 have old:∀ b o,s2.heap.get? b=some o->h₁.get? b=some o:=fun b o e=>hsb₁.extBut b o (below b (Qk e)).1 (Qc _ (hH2 ▸ Qc _ e))
 have hacc:h₁.get? s2.heap.objs.size=some { cls:=.type "list",data:=.seq ([]:List Value).toArray }:=hsb₁.extBut _ _ hDC (Qc _ (hH2 ▸ Ql _ rfl))
 have flt:∀ b∈fp,b < s2.heap.objs.size:=fun b hb=>by
  obtain ⟨o,e,_⟩:=T.obj _ _ st2 b hb
  exact Qk e
 generalize hDg:s2.heap.objs.size=D at *
 generalize hCg:HD.objs.size=C at *
 have st3:tn 0 h₁:=T.keep _ _ _ st2 fun b _ o e=>old b o e
 -- facts of the block
 have clsub:∀ x c,(cJ X.env scope.names []).lookup x=some c->X.env.cells.lookup x=some c:=fun x c e=>by
  rcases fQ _ _ _ _ (eD e) with q | q
  ·cases q
  ·exact q
 have cD:∀ x c,(cJ X.env scope.names []).lookup x=some c->c≠D:=fun x c e z=>by
  obtain ⟨v,q⟩:=I2.cell x c (clsub x c e)
  exact Jn _ (Qo q.lt (by rw [hDg,z]; exact Qi _))
 have loop:∀ s₃:Shared,s₃={ s2 with heap:=h₁,toks:=s2.toks+([]:List (Str×Value)).length } ->
   codeAny (model X.prog X.w) X.A (.compLoop (.ListComp elt [⟨tg,iter,ifs,0⟩] scope pos) 0 (.ref it) (.ref D) (compEnvC scope (cJ X.env scope.names []) C X.env)) (RR (.ref D) C) s₃:=by
  rintro s₃ rfl
  have I3:Inv (aL X scope (own++frn) C s2 H2 fp) [(D,_)] (blk own.length fr σ) H2 { s2 with heap:=h₁,toks:=s2.toks+([]:List (Str×Value)).length } :=
   sD (m:=fun _=>none) I2 S f2 (by rw [hDg]; exact flt) (by rw [hDg]; exact hCle) (hns₁:h₁.Ns C _) old (by rw [hDg]; exact Qi _) hDC hacc (fun v z=>by cases z)
  have stat:∀ {H':Hp} {pl:List (Addr×Obj)},(∀ p∈pl,p.1=D)->(∀ b∈fp,H' b=none)->∀ b∈fp,kC (aL X scope (own++frn) C s2 H2 fp) pl H' b:=fun {H' pl} hpl hn b hb=>by
   refine ⟨hn b hb,(below b (flt b hb)).1,fun z=>?_,.inl hb,fun x c e=>(f2 b hb).2.2.2.2.1 x c (clsub x c e),fun p hp=>?_⟩
   ·have z':b∈frs X.stack:=z
    rcases Qs.mp (I2.stkSub b z') with e | e
    ·exact (f2 b hb).2.1 e
    ·exact (f2 b hb).2.2.1 e
   ·have hp':p∈pl:=by simpa [aL] using hp
    rw [hpl p hp']
    exact Ne.symm (below b (flt b hb)).2
  refine sE (env:=compEnvC scope (cJ X.env scope.names []) C X.env) (fun n s'=>∃ i σ' H' ys its o,Inv (aL X scope (own++frn) C s2 H2 fp) [(D,o)] σ' H' s'/\s'.heap.PlainList D its/\aO ys its.toList/\ys.length<=sizeLine/\tn i s'.heap/\(∀ b∈fp,H' b=none)/\W i n ys σ' H') ?_ m0
   ⟨0,_,H2,[],#[],_,I3,⟨_,hacc⟩,.nil,Jz _,st3,fun b hb=>(f2 b hb).1,w0⟩
  rintro n s5 ⟨i,σ5,H5,ys,its,o,I5,pl5,v5,z5,st5,fr5,w5⟩
  have one:∀ {o:Obj},∀ p∈[(D,o)],p.1=D:=fun p hp=>by
   have e:=Qm.mp hp
   rw [e]
  rcases turn i n ys σ5 H5 w5 with ⟨stop,qn⟩ | ⟨go,N,hN,step⟩
  ·refine wpAny_mono (T.done (aL X scope (own++frn) C s2 H2 fp) rfl rfl rfl hc i _ s5 σ5 H5 (fun _ _=>False) I5 (stat one fr5) st5 stop) (fun r s6 hx9=>?_) fun _ _ z=>z
   obtain ⟨hr,I6⟩:=hx9
   subst hr
   obtain ⟨m6,hn6,_⟩:=I6.loc
   have p6:=I6.pin (D,o) (by simp [aL])
   have p5':=I5.pin (D,o) (by simp [aL])
   have pl6:s6.heap.PlainList D its:=by
    obtain ⟨k,e⟩:=pl5
    have e1:o=_:=Option.some.inj (p5'.1.symm.trans e)
    exact ⟨k,by rw [p6.1]; exact congrArg some e1⟩
   have IX:Inv X pins σ H5 s6:=I2.call' (ch:=fp) I6.os I6.base I6.hok I6.bare fun b hb=>⟨(f2 b hb).2.2.2.1,(f2 b hb).2.1,(f2 b hb).2.2.2.2.1,(f2 b hb).2.2.2.2.2⟩
   exact hRR C D s6 H5 ys its m6 hCle (Qi _) hDC hn6 I6.free p6.2.1 pl6 v5 z5 IX qn
  ·refine wpAny_mono (T.item (aL X scope (own++frn) C s2 H2 fp) rfl rfl rfl hc i _ s5 σ5 H5 (fun _ _=>False) I5 (stat one fr5) st5 go) (fun r s6 hx9=>?_) fun _ _ z=>z
   obtain ⟨u,hr,h6⟩:=hx9
   subst hr
   refine wpAny_mono h6 (fun _ s7 hx9=>?_) fun _ _ z=>z
   obtain ⟨x,H7,I7,r7,y7,st7,fr7⟩:=hx9
   have I7':=I7.pinned (stat one fr7) (T.obj _ _ st7)
   refine wpAny_mono (hg C s2 H2 fp _ s7 σ5 H7 x u _ I7' r7 (step x H7 y7)) (fun _ s8 hx9=>?_) fun _ _ z=>z
   obtain ⟨σ8,H8,I8,q8⟩:=hx9
   refine wpAny_mono (ht C s2 H2 fp _ s8 σ8 H8 _ I8 q8) (fun b s9 hx9=>?_) fun _ _ z=>z
   obtain ⟨H9,I9,q9⟩:=hx9
   -- what stands of the iterator and of the gathered list behind the tests,behind the item
   have keepT:∀ {H':Hp} {s':Shared} {σ':St},Inv (aL X scope (own++frn) C s2 H2 fp) ([(D,o)]++kD fp s7.heap) σ' H' s'->tn (i+1) s'.heap/\(∀ b∈fp,H' b=none)/\s'.heap.PlainList D its/\H' D=none:=fun {H' s' σ'} I'=>by
    refine ⟨T.keep _ _ _ st7 fun b hb o e=>(I'.pin (b,o) (Qn _ (Qn _ (dP hb e)))).1,fun b hb=>?_,?_,?_⟩
    ·obtain ⟨o,e,d⟩:=T.obj _ _ st7 b hb
     exact (I'.pin (b,o) (Qn _ (Qn _ (dP hb e)))).2.1
    ·have p':=I'.pin (D,o) (by simp [aL])
     have p5':=I5.pin (D,o) (by simp [aL])
     obtain ⟨k,e⟩:=pl5
     have e1:o=_:=Option.some.inj (p5'.1.symm.trans e)
     exact ⟨k,by rw [p'.1]; exact congrArg some e1⟩
    ·exact (I'.pin (D,o) (by simp [aL])).2.1
   cases b with
   | false =>
    rw [if_neg Qt] at q9
    rw [if_neg Qt]
    obtain ⟨m',hm,w'⟩:=hN ys σ8 H9 q9
    obtain ⟨t9,fr9,pl9,_⟩:=keepT I9
    exact ⟨m',hm,i+1,σ8,H9,ys,its,o,I9.unpinned,pl9,v5,z5,t9,fr9,w'⟩
   | true =>
    rw [if_pos rfl] at q9
    rw [if_pos rfl]
    refine wpAny_mono (he C s2 H2 fp _ s9 σ8 H9 _ I9 q9) (fun y s10 hx9=>?_) fun _ _ z=>z
    obtain ⟨yv,H10,I10,r10,lt10,q10⟩:=hx9
    obtain ⟨t10,fr10,pl10,hD10⟩:=keepT I10
    have hl:=v5.length
    refine wpAny_list_append_plain pl10 (fun h11 pl11 sb11=>?_) (by rw [<- Array.length_toList,<- hl]; exact Zc lt10)
    obtain ⟨m',hm,w'⟩:=hN _ σ8 H10 q10
    have I10':Inv (aL X scope (own++frn) C s2 H2 fp) [] σ8 H10 s10:=I10.pins_of fun p hp=>by cases hp
    have I11:Inv (aL X scope (own++frn) C s2 H2 fp) [] σ8 H10 { s10 with heap:=h11 } :=
     I10'.turned (t':=s10.toks) (it:=D) (fun b o hb e=>(sb11.2 b hb).trans e) hD10 hDC (.inr (by show s2.heap.objs.size<=D; rw [hDg]; exact Qi _)) cD (fun p hp=>by simp [aL] at hp)
    obtain ⟨k11,e11⟩:=id pl11
    have DfsX:D∉frs X.stack:=fun z=>by
     rcases Qs.mp (I2.stkSub D z) with e | e
     ·exact Jn _ (Qo I2.lt (by rw [hDg,e]; exact Qi _))
     ·exact I2.nofs (by rw [hDg]; exact Qi _) e
    refine ⟨m',hm,i+1,σ8,H10,ys++[yv],its.push y,{ cls:=.type "list",data:=.seq (its.push y) k11 },I11.pins_of fun p hp=>?_,pl11,?_,by rw [Qh]; show ys.length+1<=_; omega,T.keep _ _ _ t10 fun b hb o e=>(sb11.2 b (below b (flt b hb)).2).trans e,fr10,w'⟩
    ·have e:=Qm.mp hp
     subst e
     exact ⟨e11,hD10,hDC,DfsX,fun v z=>by cases z⟩
    ·rw [Array.toList_push]
     exact v5.append (.cons r10 .nil)
 exact codeAny_compStart_list (loop _ rfl) (T.self X.A 0 _ _ _ st3 (loop _ rfl))
theorem CompOk.clo {pins:List (Addr×Obj)} {σ:St} {H:Hp} {s:Shared} (S:CompOk X scope own fr frn) (I:Inv X pins σ H s):closureFor scope X.env=pure (cJ X.env scope.names []):=by
 obtain ⟨p1,p2,p3,p4,p5,p6,p7⟩:=S.parts
 exact uF fun y hy e=>I.ok.has y.1 (p4 y hy e)
theorem iI (S:CompOk X scope own fr frn) (hc:X.calm=true) (hi:PI X tg iter wi) (hg:∀ C s0 H0 fp,PG (aL X scope (own++frn) C s0 H0 fp) tg g) (ht:∀ C s0 H0 fp,PF (aL X scope (own++frn) C s0 H0 fp) ifs tt)
  (he:∀ C s0 H0 fp,PE (aL X scope (own++frn) C s0 H0 fp) elt te) (hs:∀ x,foldedSetIterable iter X.env x=pure x:=by intro _; rfl) :
  PE X (.ListComp elt [⟨tg,iter,ifs,0⟩] scope pos) (aA5 own.length fr wi g tt te):=by
 intro pins s σ H Q I h
 obtain ⟨p1,p2,p3,p4,p5,p6,p7⟩:=S.parts
 rw [eval_ListComp]
 refine wpAny_comprehension_free (use:=none) rfl hs (S.clo I) p1 p3 (thn (hi pins s σ H _ I h) fun v s1 h1=>thn h1 fun itv s2 h2=>?_)
 obtain ⟨it,fp,tn,J,H2,e,I2,T,st2,f2,hw⟩:=h2
 subst e
 refine mJ (RR:=fun acc C=>compPost (model X.prog X.w) X.A X.xe none (EP X pins σ Q) acc C) (Q:=fun H ys=>∀ p,H p=none->Q (.ref p) (upd H p (.lst ys))) S hc I2 T st2 f2 hg ht he hw ?_
 intro C D s' H' ys its m hC hD hDC hns hHC hHD pl v z IX q
 have cne:∀ a,s2.heap.objs.size<=a->∀ x c,X.env.cells.lookup x=some c->c≠a:=fun a ha x c e z=>by
  obtain ⟨v,w⟩:=I2.cell x c e
  exact Jn _ (Qo w.lt (by rw [z]; exact ha))
 have pne:∀ a,s2.heap.objs.size<=a->∀ p∈X.pn++pins,p.1≠a:=fun a ha p hp z=>Jn _ (Qo (Qk (I2.pin p hp).1) (by rw [z]; exact ha))
 have lne:∀ a,s2.heap.objs.size<=a->a≠X.env.locals:=fun a ha z=>Jn _ (Qo I2.lt (by rw [<- z]; exact ha))
 refine ⟨m,hns,fun h' hs'=>⟨.ref D,upd H' D (.lst ys),?_,rfl,q D hHD⟩⟩
 have IT:Inv X pins σ (upd H' D (.lst ys)) s':=IX.track pl v z hHD (lne D hD) (Ja I2.sz hD) (cne D hD) (pne D hD)
 exact IT.turned (t':=s'.toks) (it:=C) (fun b o hb e=>(hs'.2 b hb).trans e) (by rw [aD (Ne.symm hDC)]; exact hHC) (lne C hC) (.inr (Ja I2.sz hC)) (cne C hC) (pne C hC)
theorem mK {i:Nat} {y:Str} {py spos:Pos} (S:CompOk X scope own fr frn) (hc:X.calm=true) (hN:X.N.Nodup) (hyi:X.N[i]?=some y) (hx:X.env.scope.names.lookup y=some .local)
  (hsw:swapsWith (.ListComp elt [⟨tg,iter,ifs,0⟩] scope pos) (some (.Name y py)) spos.line X.env=pure true)
  (hi:PI X tg iter wi) (hg:∀ C s0 H0 fp,PG (aL X scope (own++frn) C s0 H0 fp) tg g) (ht:∀ C s0 H0 fp,PF (aL X scope (own++frn) C s0 H0 fp) ifs tt)
  (he:∀ C s0 H0 fp,PE (aL X scope (own++frn) C s0 H0 fp) elt te) (hs:∀ x,foldedSetIterable iter X.env x=pure x:=by intro _; rfl) :
  PS X (.Assign [.Name y py] (.ListComp elt [⟨tg,iter,ifs,0⟩] scope pos) spos) (aBp (aA5 own.length fr wi g tt te) (aT i)):=by
 intro pins s σ H D I h
 obtain ⟨p1,p2,p3,p4,p5,p6,p7⟩:=S.parts
 rw [exec_Assign_Name_used _ _ _ _ hsw]
 refine wpAny_bind (wpAny_standAt (wpAny_bind ?_))
 show wpAny _ X.A (do let _<-comprehension (.ListComp elt [⟨tg,iter,ifs,0⟩] scope pos) scope X.env _ (newList []) false (eval iter X.env) (some (assign (.Name y py) X.env))) _ _ s
 refine wpAny_bind (wpAny_mono (wpAny_comprehension_free (use:=some (assign (.Name y py) X.env)) (Q:=fun _ s'=>SP X pins D .next s') rfl hs (S.clo I) p1 p3 (thn (hi pins s σ H _ I h) fun v s1 h1=>thn h1 fun itv s2 h2=>?_))
  (fun _ s' hq=>wpAny_pure (wpAny_pure hq)) fun _ _ e=>e)
 obtain ⟨it,fp,tn,J,H2,e,I2,T,st2,f2,hw⟩:=h2
 subst e
 refine mJ (RR:=fun acc C=>compPost (model X.prog X.w) X.A X.xe (some (assign (.Name y py) X.env)) (fun _ s'=>SP X pins D .next s') acc C) (Q:=fun H ys=>∀ p,H p=none->D.nx (σ.set i (some (.ref p))) (upd H p (.lst ys))) S hc I2 T st2 f2 hg ht he hw ?_
 intro C L s' H' ys its m hC hL hLC hns hHC hHL pl v z IX q
 have cne:∀ a,s2.heap.objs.size<=a->∀ x c,X.env.cells.lookup x=some c->c≠a:=fun a ha x c e z=>by
  obtain ⟨v,w⟩:=I2.cell x c e
  exact Jn _ (Qo w.lt (by rw [z]; exact ha))
 have pne:∀ a,s2.heap.objs.size<=a->∀ p∈X.pn++pins,p.1≠a:=fun a ha p hp z=>Jn _ (Qo (Qk (I2.pin p hp).1) (by rw [z]; exact ha))
 have lne:∀ a,s2.heap.objs.size<=a->a≠X.env.locals:=fun a ha z=>Jn _ (Qo I2.lt (by rw [<- z]; exact ha))
 have IT:Inv X pins σ (upd H' L (.lst ys)) s':=IX.track pl v z hHL (lne L hL) (Ja I2.sz hL) (cne L hL) (pne L hL)
 show wpAny _ _ (assign (.Name y py) X.env (.ref L)) _ _ s'
 refine wpAny_assign_Name (oV IT hN hyi (.inl hx) (v:=.ref L) rfl (fun s'' I'' hch=>?_) (.inr hx))
 obtain ⟨a,sb,ha⟩:=hch
 have hCa:C≠a:=by
  rcases ha with e | e
  ·rw [e]; exact lne C hC
  ·exact Ne.symm (cne C hC y a e)
 refine ⟨m,hns.sameBut sb hCa,fun h' hs'=>⟨σ.set i (some (.ref L)),upd H' L (.lst ys),?_,q L hHL⟩⟩
 exact I''.turned (t':=s''.toks) (it:=C) (fun b o hb e=>(hs'.2 b hb).trans e) (by rw [aD (Ne.symm hLC)]; exact hHC) (lne C hC) (.inr (Ja I2.sz hC)) (cne C hC) (pne C hC)
end
inductive Kd where
 | int | bl | non | str | tup | lst | dct
 deriving DecidableEq
def KdV (K:PySem.W.Frag) (H:Hp):V->Kd->Prop
 | .int _,k=>k=.int
 | .bl _,k=>k=.bl
 | .non,k=>k=.non
 | .str _,k=>k=.str
 | .ref p,k=>(k=.lst/\∃ xs,SqL K H p xs)∨(k=.tup/\∃ xs,SqT K H p xs)∨(k=.dct/\∃ kvs,H p=some (.dK kvs))
 | _,_=>False
section
variable {X:Cx}
theorem uH {pins:List (Addr×Obj)} {σ:St} {H:Hp} {s:Shared} {p:Addr} {kvs:List (Key×V)} (I:Inv X pins σ H s) (h:H p=some (.dK kvs)):∃ o,s.heap.get? p=some o/\o.cls=.type "dict" := by
 obtain ⟨_,_,vs,_,o,es,ep,e,ex,_⟩:=I.hok p _ h
 exact ⟨o,e,ex.1⟩
theorem qJ:dA X (.builtin "isinstance") (fun xs H Q=>∃ x k,xs = [x,.ty "int"]/\KdV X.K H x k/\Q (.bl (decide (k=.int∨k=.bl))) H):=by
 intro pins s σ H xs us Q I r h
 obtain ⟨x,k,rfl,hk,q⟩:=h
 obtain ⟨u,t,rfl,rx,rt⟩:=oX r
 cases rt
 cases x with
 | int i=>cases hk; obtain ⟨t,rfl⟩:=rx; exact IsiPair.int_int ⟨.bl true,H,I,rfl,q⟩
 | bl b=>cases hk; cases rx; exact IsiPair.bool_int ⟨.bl true,H,I,rfl,q⟩
 | non=>cases hk; cases rx; exact IsiPair.NoneType_int ⟨.bl false,H,I.tok _,rfl,q⟩
 | str y=>cases hk; obtain ⟨t,rfl⟩:=rx; exact IsiPair.str_int ⟨.bl false,H,I.tok _,rfl,q⟩
 | ref p =>
  cases rx
  rcases hk with ⟨rfl,xs,hx⟩ | ⟨rfl,xs,hx⟩ | ⟨rfl,kvs,hx⟩
  ·obtain ⟨its,r',pl,hz⟩:=I.list hx; exact IsiPair.isList_int pl.isList (fun _ _ e=>e) ⟨.bl false,H,I.tok _,rfl,q⟩
  ·obtain ⟨its,r',pl,hz⟩:=I.tuple hx; exact IsiPair.isTuple_int pl (fun _ _ e=>e) ⟨.bl false,H,I.tok _,rfl,q⟩
  ·obtain ⟨o,e,c⟩:=uH I hx; exact IsiPair.dict_int e c ⟨.bl false,H,I.tok _,rfl,q⟩
 | _=>exact hk.elim
theorem oO:dA X (.builtin "isinstance") (fun xs H Q=>∃ x k,xs = [x,.ty "bool"]/\KdV X.K H x k/\Q (.bl (decide (k=.bl))) H):=by
 intro pins s σ H xs us Q I r h
 obtain ⟨x,k,rfl,hk,q⟩:=h
 obtain ⟨u,t,rfl,rx,rt⟩:=oX r
 cases rt
 cases x with
 | int i=>cases hk; obtain ⟨t,rfl⟩:=rx; exact IsiPair.int_bool ⟨.bl false,H,I.tok _,rfl,q⟩
 | bl b=>cases hk; cases rx; exact IsiPair.bool_bool ⟨.bl true,H,I,rfl,q⟩
 | non=>cases hk; cases rx; exact IsiPair.NoneType_bool ⟨.bl false,H,I.tok _,rfl,q⟩
 | str y=>cases hk; obtain ⟨t,rfl⟩:=rx; exact IsiPair.str_bool ⟨.bl false,H,I.tok _,rfl,q⟩
 | ref p =>
  cases rx
  rcases hk with ⟨rfl,xs,hx⟩ | ⟨rfl,xs,hx⟩ | ⟨rfl,kvs,hx⟩
  ·obtain ⟨its,r',pl,hz⟩:=I.list hx; exact IsiPair.isList_bool pl.isList (fun _ _ e=>e) ⟨.bl false,H,I.tok _,rfl,q⟩
  ·obtain ⟨its,r',pl,hz⟩:=I.tuple hx; exact IsiPair.isTuple_bool pl (fun _ _ e=>e) ⟨.bl false,H,I.tok _,rfl,q⟩
  ·obtain ⟨o,e,c⟩:=uH I hx; exact IsiPair.dict_bool e c ⟨.bl false,H,I.tok _,rfl,q⟩
 | _=>exact hk.elim
theorem mL:dA X (.builtin "isinstance") (fun xs H Q=>∃ x k,xs = [x,.ty "tuple"]/\KdV X.K H x k/\Q (.bl (decide (k=.tup))) H):=by
 intro pins s σ H xs us Q I r h
 obtain ⟨x,k,rfl,hk,q⟩:=h
 obtain ⟨u,t,rfl,rx,rt⟩:=oX r
 cases rt
 cases x with
 | int i=>cases hk; obtain ⟨t,rfl⟩:=rx; exact IsiPair.int_tuple ⟨.bl false,H,I.tok _,rfl,q⟩
 | bl b=>cases hk; cases rx; exact IsiPair.bool_tuple ⟨.bl false,H,I.tok _,rfl,q⟩
 | non=>cases hk; cases rx; exact IsiPair.NoneType_tuple ⟨.bl false,H,I.tok _,rfl,q⟩
 | str y=>cases hk; obtain ⟨t,rfl⟩:=rx; exact IsiPair.str_tuple ⟨.bl false,H,I.tok _,rfl,q⟩
 | ref p =>
  cases rx
  rcases hk with ⟨rfl,xs,hx⟩ | ⟨rfl,xs,hx⟩ | ⟨rfl,kvs,hx⟩
  ·obtain ⟨its,r',pl,hz⟩:=I.list hx; exact IsiPair.isList_tuple pl.isList (fun _ _ e=>e) ⟨.bl false,H,I.tok _,rfl,q⟩
  ·obtain ⟨its,r',pl,hz⟩:=I.tuple hx; exact IsiPair.isTuple_tuple pl (fun _ _ e=>e) ⟨.bl true,H,I,rfl,q⟩
  ·obtain ⟨o,e,c⟩:=uH I hx; exact IsiPair.dict_tuple e c ⟨.bl false,H,I.tok _,rfl,q⟩
 | _=>exact hk.elim
theorem wJ (bs:List Bool) (tr:Nat->Bool) (h:∀ i b,bs[i]?=some b->tr i=b):(List.range bs.length).all tr=bs.all id:=by
 rw [Xx,Xg,Xg]
 constructor
 ·intro q b hb
  obtain ⟨i,hi⟩:=Wq hb
  have:=q i (Zu.mpr (Qa.mp hi).1)
  rw [h i b hi] at this
  exact this
 ·intro q i hi
  have hi':=Zu.mp hi
  have e:bs[i]?=some bs[i]:=Qb hi'
  rw [h i _ e]
  exact q _ (Wg hi')
theorem yB (hc:X.calm=true):dA X (.builtin "all") (fun xs H Q=>∃ (p:Addr) (bs:List Bool),xs = [.ref p]/\SqL X.K H p (bs.map V.bl)/\Q (.bl (bs.all id)) H):=by
 intro pins s σ H xs us Q I r h
 obtain ⟨p,bs,rfl,hx,q⟩:=h
 obtain ⟨u,rfl,rx⟩:=eK r
 cases rx
 obtain ⟨its,rv,pl,hz⟩:=I.list hx
 have hl:=rv.length
 rw [Qd] at hl
 have hlt:p < s.heap.objs.size:=by obtain ⟨o,n,e,_⟩:=pl; exact Qk e
 refine call_all_walk (wpAny_pyIter_list pl.isList ?_)
 refine ⟨s.heap.objs.size,_,_,_,_,_,fun i=>(bs[i]?).getD false,rfl,Walks.list (A:=X.A.in1) (I.ok.hd hc) s.heap.objs.size p (Jd hlt) its.toArray,⟨⟨_,Ql _ rfl,rfl,rfl⟩,pl.isList.push _⟩,?_,fun h' tk hk=>?_⟩
 ·intro i v s' Q' E' hP hQ'
  have hP':its[i]?=some v:=by simpa using hP
  have hi:i < bs.length:=by rw [hl]; exact (Qa.mp hP').1
  obtain ⟨w,hw,rw'⟩:=rv.get (i:=i) (x:=.bl bs[i]) (by rw [Qg,Qb hi]; rfl)
  rw [hw] at hP'
  cases hP'
  cases rw'
  have e:(bs[i]?).getD false=bs[i]:=by rw [Qb hi]; rfl
  rw [<- e]
  exact wpAny_truthy_bool hQ'
 ·have e:(List.range its.toArray.size).all (fun i=>(bs[i]?).getD false)=bs.all id:=by
   rw [Qp,<- hl]
   exact wJ bs _ fun i b hb=>by rw [hb]; rfl
  rw [e]
  refine ⟨.bl _,H,I.kept (h':=h') fun b o e=>hk b o ?_ (Qc _ e),rfl,q⟩
  intro z
  have z':b=s.heap.objs.size:=by simpa using z
  exact Jn _ (z' ▸ Qk e)
end
mutual
def Den (K:PySem.W.Frag) (H:Hp):PyData->V->Prop
 | .none,v=>v=.non
 | .bool b,v=>v=.bl b
 | .int i,v=>v=.int i
 | .str x,v=>v=.str x
 | .list ds,v=>∃ a xs,v=.ref a/\SqL K H a xs/\aW K H ds xs
 | .tuple ds,v=>∃ a xs,v=.ref a/\SqT K H a xs/\aW K H ds xs
 | .dict kvs,v=>kvs = []/\∃ a,v=.ref a/\H a=some (.dK [])
def aW (K:PySem.W.Frag) (H:Hp):List PyData->List V->Prop
 | [],xs=>xs = []
 | d::ds,xs=>∃ x r,xs=x::r/\Den K H d x/\aW K H ds r
end
theorem aG.rd {H H':Hp} {a:Addr} {u:HO} (e:aG H H') (h:Rd H a u):Rd H' a u:=by
 rcases h with h | ⟨o,h⟩
 ·exact .inl (e a u h)
 ·exact .inr ⟨o,e a _ h⟩
theorem aG.seqL {K:PySem.W.Frag} {H H':Hp} {a:Addr} {xs:List V} (e:aG H H') (h:SqL K H a xs):SqL K H' a xs:=by
 rcases h with h | h
 ·exact .inl (e.rd h)
 ·exact .inr h
theorem aG.seqT {K:PySem.W.Frag} {H H':Hp} {a:Addr} {xs:List V} (e:aG H H') (h:SqT K H a xs):SqT K H' a xs:=by
 rcases h with h | h
 ·exact .inl (e.rd h)
 ·exact .inr h
theorem aG.new {H:Hp} {p:Addr} {o:HO} (h:H p=none):aG H (upd H p o):=fun b u e=>by rw [aD (dO e h)]; exact e
mutual
theorem aG.den {K:PySem.W.Frag} {H H':Hp} (e:aG H H'):∀ (d:PyData) (v:V),Den K H d v->Den K H' d v
 | .none,v,h=>by unfold Den at h ⊢; exact h
 | .bool b,v,h=>by unfold Den at h ⊢; exact h
 | .int i,v,h=>by unfold Den at h ⊢; exact h
 | .str x,v,h=>by unfold Den at h ⊢; exact h
 | .list ds,v,h=>by unfold Den at h ⊢; obtain ⟨a,xs,h1,h2,h3⟩:=h; exact ⟨a,xs,h1,e.seqL h2,aG.denAll e ds xs h3⟩
 | .tuple ds,v,h=>by unfold Den at h ⊢; obtain ⟨a,xs,h1,h2,h3⟩:=h; exact ⟨a,xs,h1,e.seqT h2,aG.denAll e ds xs h3⟩
 | .dict kvs,v,h=>by unfold Den at h ⊢; obtain ⟨h1,a,h2,h3⟩:=h; exact ⟨h1,a,h2,e a _ h3⟩
theorem aG.denAll {K:PySem.W.Frag} {H H':Hp} (e:aG H H'):∀ (ds:List PyData) (xs:List V),aW K H ds xs->aW K H' ds xs
 | [],xs,h=>by unfold aW at h ⊢; exact h
 | d::ds,xs,h=>by unfold aW at h ⊢; obtain ⟨x,r,h1,h2,h3⟩:=h; exact ⟨x,r,h1,aG.den e d x h2,aG.denAll e ds r h3⟩
end
section
variable {K:PySem.W.Frag} {H:Hp}
theorem dE {i:Int} {v:V}:Den K H (.int i) v↔v=.int i:=by unfold Den; exact Iff.rfl
theorem sF {b:Bool} {v:V}:Den K H (.bool b) v↔v=.bl b:=by unfold Den; exact Iff.rfl
theorem sG {v:V}:Den K H .none v↔v=.non:=by unfold Den; exact Iff.rfl
theorem vC {x:Str} {v:V}:Den K H (.str x) v↔v=.str x:=by unfold Den; exact Iff.rfl
theorem sH {ds:List PyData} {v:V}:Den K H (.list ds) v↔∃ a xs,v=.ref a/\SqL K H a xs/\aW K H ds xs:=by
 constructor
 ·intro h; unfold Den at h; exact h
 ·intro h; unfold Den; exact h
theorem cO {ds:List PyData} {v:V}:Den K H (.tuple ds) v↔∃ a xs,v=.ref a/\SqT K H a xs/\aW K H ds xs:=by
 constructor
 ·intro h; unfold Den at h; exact h
 ·intro h; unfold Den; exact h
theorem yC {kvs:List (PyData×PyData)} {v:V}:Den K H (.dict kvs) v↔kvs = []/\∃ a,v=.ref a/\H a=some (.dK []):=by
 constructor
 ·intro h; unfold Den at h; exact h
 ·intro h; unfold Den; exact h
theorem cY {xs:List V}:aW K H [] xs↔xs = []:=by unfold aW; exact Iff.rfl
theorem bO {d:PyData} {ds:List PyData} {xs:List V}:aW K H (d::ds) xs↔∃ x r,xs=x::r/\Den K H d x/\aW K H ds r:=by
 constructor
 ·intro h; unfold aW at h; exact h
 ·intro h; unfold aW; exact h
theorem eB:∀ {ds:List PyData} {xs:List V},aW K H ds xs->xs.length=ds.length
 | [],xs,h=>by rw [cY.mp h]; rfl
 | d::ds,xs,h=>by
  obtain ⟨x,r,rfl,_,h3⟩:=bO.mp h
  rw [Qz,Qz,eB h3]
theorem mM:∀ {ds:List PyData} {xs:List V} {i:Nat} {d:PyData},aW K H ds xs->ds[i]?=some d->∃ x,xs[i]?=some x/\Den K H d x
 | [],_,_,_,_,e=>by simp at e
 | d::ds,xs,0,d',h,e=>by
  obtain ⟨x,r,rfl,h2,_⟩:=bO.mp h
  simp at e; subst e
  exact ⟨x,rfl,h2⟩
 | d::ds,xs,i+1,d',h,e=>by
  obtain ⟨x,r,rfl,_,h3⟩:=bO.mp h
  obtain ⟨y,h4,h5⟩:=mM (i:=i) (d:=d') h3 (by simpa using e)
  exact ⟨y,by simpa using h4,h5⟩
theorem pF {ds:List PyData} {xs:List V} {i:Nat} {x:V} (h:aW K H ds xs) (e:xs[i]?=some x):∃ d,ds[i]?=some d/\Den K H d x:=by
 have hl:=eB h
 have hi:i < ds.length:=by rw [<- hl]; exact (Qa.mp e).1
 obtain ⟨y,h1,h2⟩:=mM h (Qb hi)
 rw [e] at h1; cases h1
 exact ⟨_,Qb hi,h2⟩
theorem eZ:∀ {ns:List Int} {xs:List V},aW K H (ns.map PyData.int) xs↔xs=ns.map V.int
 | [],xs=>cY
 | n::ns,xs=>by
  rw [Qu,bO]
  constructor
  ·rintro ⟨x,r,rfl,h2,h3⟩
   rw [dE.mp h2,eZ.mp h3]
   rfl
  ·intro e
   exact ⟨_,_,e,dE.mpr rfl,eZ.mpr rfl⟩
theorem bP {ns:List Int} {v:V}:Den K H (.tuple (ns.map .int)) v↔∃ a,v=.ref a/\SqT K H a (ns.map V.int):=by
 rw [cO]
 constructor
 ·rintro ⟨a,xs,rfl,h1,h2⟩
  rw [eZ.mp h2] at h1
  exact ⟨a,rfl,h1⟩
 ·rintro ⟨a,rfl,h⟩
  exact ⟨a,_,rfl,h,eZ.mpr rfl⟩
def qK:PyData->Kd
 | .none=>.non | .bool _=>.bl | .int _=>.int | .str _=>.str | .list _=>.lst | .tuple _=>.tup | .dict _=>.dct
theorem Den.kd {d:PyData} {v:V} (h:Den K H d v):KdV K H v (qK d):=by
 cases d with
 | none=>rw [sG.mp h]; rfl
 | bool b=>rw [sF.mp h]; rfl
 | int i=>rw [dE.mp h]; rfl
 | str x=>rw [vC.mp h]; rfl
 | list ds=>obtain ⟨a,xs,rfl,h1,_⟩:=sH.mp h; exact .inl ⟨rfl,xs,h1⟩
 | tuple ds=>obtain ⟨a,xs,rfl,h1,_⟩:=cO.mp h; exact .inr (.inl ⟨rfl,xs,h1⟩)
 | dict kvs=>obtain ⟨_,a,rfl,h1⟩:=yC.mp h; exact .inr (.inr ⟨rfl,[],h1⟩)
end
section
variable {X:Cx} {pins:List (Addr×Obj)} {σ:St} {H:Hp} {s:Shared}
mutual
def cZ:PyData->Bool
 | .dict _=>false
 | .list ds=>gD ds
 | .tuple ds=>gD ds
 | _=>true
def gD:List PyData->Bool
 | []=>true
 | d::ds=>cZ d && gD ds
end
mutual
theorem Den.reads (I:Inv X pins σ H s):∀ (d:PyData) (v:V) (u:Value),cZ d=true->Den X.K H d v->aQ v u->∃ as,Reads s.heap u d as
 | .none,v,u,_,h,r=>by rw [sG.mp h] at r; cases r; exact ⟨_,.none⟩
 | .bool b,v,u,_,h,r=>by rw [sF.mp h] at r; cases r; exact ⟨_,.bool b⟩
 | .int i,v,u,_,h,r=>by rw [dE.mp h] at r; obtain ⟨t,rfl⟩:=r; exact ⟨_,.int i t⟩
 | .str x,v,u,_,h,r=>by rw [vC.mp h] at r; obtain ⟨t,rfl⟩:=r; exact ⟨_,.str x t⟩
 | .list ds,v,u,hn,h,r=>by
  obtain ⟨a,xs,rfl,h1,h2⟩:=sH.mp h
  cases r
  obtain ⟨its,rv,⟨o,n,e,c,_,d⟩,_⟩:=I.list h1
  obtain ⟨as,ra⟩:=aW.reads I ds xs its (by unfold cZ at hn; exact hn) h2 rv
  exact ⟨_,.list e c d (by simpa using ra)⟩
 | .tuple ds,v,u,hn,h,r=>by
  obtain ⟨a,xs,rfl,h1,h2⟩:=cO.mp h
  cases r
  obtain ⟨its,rv,⟨o,e,c,n,d⟩,_⟩:=I.tuple h1
  obtain ⟨as,ra⟩:=aW.reads I ds xs its (by unfold cZ at hn; exact hn) h2 rv
  exact ⟨_,.tuple e c d (by simpa using ra)⟩
 | .dict kvs,v,u,hn,_,_=>by unfold cZ at hn; cases hn
theorem aW.reads (I:Inv X pins σ H s):∀ (ds:List PyData) (xs:List V) (us:List Value),gD ds=true->aW X.K H ds xs->aO xs us->∃ as,ReadsAll s.heap us ds as
 | [],xs,us,_,h,r=>by rw [cY.mp h] at r; cases r; exact ⟨_,.nil⟩
 | d::ds,xs,us,hn,h,r=>by
  obtain ⟨x,rr,rfl,h2,h3⟩:=bO.mp h
  unfold gD at hn
  rw [Ju] at hn
  cases r with
  | cons r1 r2 =>
   obtain ⟨as,ra⟩:=Den.reads I d x _ hn.1 h2 r1
   obtain ⟨bs,rb⟩:=aW.reads I ds rr _ hn.2 h3 r2
   exact ⟨_,.cons ra rb⟩
end
theorem aBA (hu:X.A.units+64 < cLine):OpR X (compareOp .Eq) (fun x y H Q=>∃ d e,Den X.K H d x/\Den X.K H e y/\cZ d=true/\cZ e=true/\SeqAt.shaped d=true/\SeqAt.shaped e=true/\Q (.bl (PyData.eqv d e)) H):=by
 intro pins s σ H x y v u Q I rx ry h
 obtain ⟨d,e,hd,he,n1,n2,s1,s2,q⟩:=h
 obtain ⟨as,ra⟩:=Den.reads I d x v n1 hd rx
 obtain ⟨bs,rb⟩:=Den.reads I e y u n2 he ry
 exact eq_dataH ra rb s1 s2 hu ⟨.bl _,H,I,rfl,q⟩
theorem yD (hu:X.A.units+64 < cLine):OpR X (compareOp .NotEq) (fun x y H Q=>∃ d e,Den X.K H d x/\Den X.K H e y/\cZ d=true/\cZ e=true/\SeqAt.shaped d=true/\SeqAt.shaped e=true/\Q (.bl (!PyData.eqv d e)) H):=by
 intro pins s σ H x y v u Q I rx ry h
 obtain ⟨d,e,hd,he,n1,n2,s1,s2,q⟩:=h
 obtain ⟨as,ra⟩:=Den.reads I d x v n1 hd rx
 obtain ⟨bs,rb⟩:=Den.reads I e y u n2 he ry
 exact ne_dataH ra rb s1 s2 hu ⟨.bl _,H,I,rfl,q⟩
theorem wK:MtR X "tuple.count" (fun x vs H Q=>∃ (a:Addr) (ns:List Int) (n:Int),x=.ref a/\vs = [.int n]/\SqT X.K H a (ns.map V.int)/\Q (.int (ns.count n:Nat)) H):=by
 intro pins s σ H x v vs us Q I rx r h
 obtain ⟨a,ns,n,rfl,rfl,ha,q⟩:=h
 obtain ⟨u,rfl,t,rfl⟩:=eK r
 cases rx
 obtain ⟨its,rv,⟨⟨cls,dd,data,sl⟩,ho,hc,k,hd⟩,hzz⟩:=I.tuple ha
 simp only at hc hd
 subst hc hd
 have hi:IntsAre its ns:=gC rv
 refine call_meets PySem.F.slot_tuple_count ⟨_,ho,rfl⟩ PySem.F.entry_tuple_count (PySem.F.args_tuple_count_2 _ _) (SeqAt.tuple_countAt a its.toArray k dd sl (.int n t) (isInt n)) ⟨ho,fun y hy=>(eq_isInt n t hi y (by simpa using hy)).at _ _,?_⟩
 have e:(its.toArray.toList.countP (isInt n))=ns.count n:=by
  simp only [List.toList_toArray]
  clear q r ha rv ho hzz
  induction hi with
  | nil=>rfl
  | cons m t' _ ih =>
   rw [List.countP_cons,Jw,ih]
   rfl
 rw [e]
 exact ⟨.int _,H,I.tok _,⟨_,rfl⟩,q⟩
end
section
variable {prog:Program} {w:World} {A:Around} {E:Value->Shared->Prop} {s:Shared}
theorem wL {x:Value} {ns:List Int} {Q:Value->Shared->Prop} (h64:ns.length < 64)
  (hc:∀ Q':List Value->Shared->Prop,(∀ h' tk vs,(∀ b o,s.heap.get? b=some o->h'.get? b=some o)->IntsAre vs ns->Q' vs { s with heap:=h',toks:=tk })->wpAny (model prog w) A.in1 (collect x) Q' E s)
  (h:∀ (h1 h':Heap) tk out ns',(∀ b o,s.heap.get? b=some o->h1.get? b=some o)->(∀ b o,h1.get? b=some o->h'.get? b=some o)->h'.PlainList h1.objs.size out->IntsAre out.toList ns'->ns'.Perm ns->ns'.Pairwise (·<=·)->Q (.ref h1.objs.size) { s with heap:=h',toks:=tk }) :
  wpAny (model prog w) A (call (.builtin "sorted") [x]) Q E s:=by
 refine Calls.call_function_entry kind_sorted plain_sorted entry_sorted (args_sorted1 _) ?_
 unfold Builtin.«sorted»
 refine wpAny_bind (m:=checkCount "sorted" 1 1 _) (wpAny_pure ?_)
 refine wpAny_bind (hc _ fun h1 tk vs kp hi=>?_)
 have hlen:=hi.length
 refine wpAny_bind (wpAny_newList ?_ (by rw [sizeLine_eq]; omega))
 have hoL:(h1.push (seqObj "list" vs.toArray 0)).get? h1.objs.size=some (seqObj "list" vs.toArray 0):=Ql _ rfl
 refine wpAny_bind (wpAny_holding (wpAny_call_entry slot_list_sort ⟨_,hoL,rfl⟩ entry_list_sort (list_sort_tree hoL hi (by omega) fun out ns' a1 a2 a3=>⟨_,rfl,?_⟩) (args_list_sort _)))
 refine wpAny_pure ⟨_,rfl,?_⟩
 obtain ⟨e,he⟩:=sortedHeap_at (out:=out) hoL
 refine h h1 _ tk out ns' kp (fun b o q=>?_) ⟨e,he⟩ a1 a2 a3
 rw [sortedHeap_old (Jd (Qk q)) (by rw [size_push']; exact Xt (Qk q))]
 exact Qc _ q
end
section
variable {X:Cx}
theorem gW:dA X (.type "range") (fun xs H Q=>∃ j,xs = [.int j]/\∀ p,H p=none->Q (.ref p) (upd H p (.rng 0 j))):=by
 intro pins s σ H xs us Q I r h
 obtain ⟨j,rfl,q⟩:=h
 obtain ⟨u,rfl,t,rfl⟩:=eK r
 refine call_range_1 ⟨.ref s.heap.objs.size,_,I.laid (fun b o e=>Qc _ e) (Qi _) ?_,rfl,q _ (I.hok.fresh (Qi _))⟩
 exact ⟨_,_,_,Ql _ rfl⟩
def cL (n:Nat):List Int:=(List.range n).map fun (i:Nat)=>(i:Int)
theorem kW:dA X (.builtin "sorted") (fun xs H Q=>∃ (a:Addr) (ns:List Int),xs = [.ref a]/\(SqL X.K H a (ns.map V.int)∨SqT X.K H a (ns.map V.int))/\ns.length < 64 /\
  ∀ (p:Addr) (ms:List Int),H p=none->ms.Perm ns->ms.Pairwise (·<=·)->Q (.ref p) (upd H p (.lst (ms.map V.int)))):=by
 intro pins s σ H xs us Q I r h
 obtain ⟨a,ns,rfl,ha,h64,q⟩:=h
 obtain ⟨u,rfl,rx⟩:=eK r
 cases rx
 refine wL h64 (fun Q' hQ'=>?_) fun h1 h' tk out ns' k1 k2 pl hi hp ho=>?_
 ·rcases ha with ha | ha
  ·obtain ⟨its,rv,⟨o,n,e,c,_,d⟩,hz⟩:=I.list ha
   have hl:=rv.length
   exact wpAny_collect_seq a (.inl rfl) e c d (fun h' kp=>hQ' h' s.toks _ kp (by simpa using gC rv)) (by rw [Qp,<- hl]; exact hz)
  ·obtain ⟨its,rv,⟨o,e,c,n,d⟩,hz⟩:=I.tuple ha
   have hl:=rv.length
   exact wpAny_collect_seq a (.inr rfl) e c d (fun h' kp=>hQ' h' s.toks _ kp (by simpa using gC rv)) (by rw [Qp,<- hl]; exact hz)
 ·have I1:Inv X pins σ H { s with heap:=h1,toks:=tk }:=I.kept k1
  have hf:=I1.hok.fresh (Qi _)
  have hl:=hp.length_eq
  obtain ⟨n,e⟩:=pl
  have I2:Inv X pins σ (upd H h1.objs.size (.lst (ns'.map V.int))) { s with heap:=h',toks:=tk } :=
   I1.laid (t':=tk) k2 (Qi _) (show bB X.prog X.w _ _ _ (.lst _) from ⟨by rw [Qd,hl,sizeLine_eq]; omega,out.toList,n,pE hi,by simpa using e⟩)
  exact ⟨.ref h1.objs.size,_,I2,rfl,q _ ns' hf hp ho⟩
end
def tab (L:Bool) (ns:List Nat):SetTable:={ mask:=7,place:=ns.toArray,dummies:=#[],finger:=0,led:=L,moves:=0,plain:=true }
def aCZ (l:List (Nat×Tok)):Array (Int×Value):=(l.map fun p=>((p.1:Int),Value.int (p.1:Int) p.2)).toArray
def SX (L:Bool) (h:Heap) (a:Addr) (l:List (Nat×Tok)):Prop:=∃ o ep,h.get? a=some o/\o.ExactSet/\o.data=.set (aCZ l) ep (tab L (l.map (·.1)))
section
variable {prog:Program} {w:World} {A:Around} {E:Value->Shared->Prop} {s:Shared} {L:Bool} {a:Addr}
end
section
variable {prog:Program} {w:World} {A:Around} {E:Value->Shared->Prop} {s:Shared}
abbrev Led (w:World):Bool:=!(w.params.followText "set-order")
def two (a b:Nat) (t u:Tok):List (Nat×Tok):=if a=b then [(a,t)] else if a < b then [(a,t),(b,u)] else [(b,u),(a,t)]
theorem SX.keep {L:Bool} {h h':Heap} {a:Addr} {l:List (Nat×Tok)} (x:SX L h a l) (k:∀ o,h.get? a=some o->h'.get? a=some o):SX L h' a l:=by
 obtain ⟨o,ep,e,r⟩:=x
 exact ⟨o,ep,k o e,r⟩
end
section
variable {prog:Program} {w:World} {A:Around} {E:Value->Shared->Prop} {s:Shared} {S:Addr} {o:Obj} {ep:Nat} {l:List (Nat×Tok)}
end
def aC0 (w:World) (p:Addr) (a b:Nat):HO:=.ext fun h=>∃ t u,SX (Led w) h p (two a b t u)
section
variable {X:Cx}
end
structure Sub (prog:Program) (w:World) (i l:Addr) (n:Nat) (P:Nat->Value->Prop) (st:Nat->Heap->Prop):Prop where
 keep:∀ k h h',st k h->(∀ b,b=i∨b=l->∀ o,h.get? b=some o->h'.get? b=some o)->st k h'
 obj:∀ k h,st k h->(∃ o,h.get? i=some o/\∀ v,o.data≠.cell v)/\∃ o,h.get? l=some o
 item:∀ (A:Around) k (s:Shared) (Q:Value->Shared->Prop) (E:Value->Shared->Prop),k < n->st k s.heap->(∀ v h',P k v->st (k+1) h'->Heap.SameBut i s.heap h'->Q v { s with heap:=h' })->wpAny (model prog w) A (Builtin.SmallTypes.nextOf (.ref i)) Q E s
 done:∀ (A:Around) (s:Shared) (Q:Value->Shared->Prop) (E:Value->Shared->Prop),A.handled=none->st n s.heap->(∀ h' e,Heap.ExtBut i s.heap h'->(∃ o,h'.get? e=some o/\o.cls=.type "StopIteration")->E (.ref e) { s with heap:=h' }) ->
  wpAny (model prog w) A (Builtin.SmallTypes.nextOf (.ref i)) Q E s
theorem yE (prog:Program) (w:World) (i l:Addr) (items:Array Value) (hne:l≠i):Sub prog w i l items.size (fun k v=>items[k]?=some v) (fun k h=>h.IsListIter i l k/\h.IsList l items) where
 keep:=fun k h h' st kp=>⟨st.1.at fun o e=>kp i (.inl rfl) o e,st.2.at fun o e=>kp l (.inr rfl) o e⟩
 obj:=fun k h st=>by
  obtain ⟨⟨o,e,_,d⟩,⟨o2,e2,_⟩⟩:=st
  exact ⟨⟨o,e,fun v z=>by rw [d] at z; cases z⟩,o2,e2⟩
 item:=fun A k s Q E hk st hQ=>wpAny_nextOf_list_item st.1 st.2 (Array.getElem?_eq_getElem hk) fun h' a b=>hQ _ h' (Array.getElem?_eq_getElem hk) ⟨a,st.2.at fun o e=>b.extBut l o hne e⟩ b
 done:=fun A s Q E hh st hE=>wpAny_nextOf_list_end hh st.1 st.2 (Array.getElem?_eq_none (Qi _)) hE
theorem jK {prog:Program} {w:World} {A:Around} {E:Value->Shared->Prop} {s:Shared} {it t:Addr} {i:Nat} {items:Array Value} {x:Value} {Q:Value->Shared->Prop} (hit:s.heap.IsTupleIter it t i) (ht:s.heap.IsTuple t items) (hx:items[i]?=some x)
  (hQ:∀ h',h'.IsTupleIter it t (i+1)->Heap.SameBut it s.heap h'->Q x { s with heap:=h' }):wpAny (model prog w) A (Builtin.SmallTypes.nextOf (.ref it)) Q E s:=by
 obtain ⟨o,ho,hc,hd⟩:=id hit
 obtain ⟨ol,hol,_,nl,hdl⟩:=ht
 have hT:=hit.typeIs
 unfold Builtin.SmallTypes.nextOf
 refine wpAny_bind (wpAny_callSpecial?_slot (name:=Str.ofString "__next__") hT PySem.F.slot_tuple_iterator_next (wpAny_call_entry PySem.F.slot_tuple_iterator_next hT PySem.F.entry_tuple_iterator_next ?_ (PySem.F.args_tuple_iterator_next_1 _)))
 refine wpAny_bind (m:=field (.ref it) 0) (wpAny_field ho hd (x:=.ref t) rfl ?_)
 have hno:¬ ((Value.ref t==Value.none)=true):=Qt
 show wpAny _ _ (if (Value.ref t==Value.none)=true then _ else _) _ _ s
 rw [if_neg hno]
 refine wpAny_bind (m:=field (.ref it) 1) (wpAny_field ho hd (x:=.int i 0) rfl ?_)
 refine wpAny_bind (m:=seqItems? (.ref t)) (wpAny_seqItems hol hdl ?_)
 simp only [Xh,hx]
 refine wpAny_bind (wpAny_setField ho hd (by simp) (wpAny_pure ⟨x,rfl,wpAny_pure (hQ _ ?_ (Heap.SameBut.update ..))⟩))
 refine ⟨_,Zn _ ho (Obj.isFreed_of_fields (Obj.data_mapFields hd _)),(Obj.cls_mapFields ..).trans hc,?_⟩
 rw [Obj.data_mapFields hd]
 simp [rawInt]
theorem kH {prog:Program} {w:World} {A:Around} {E:Value->Shared->Prop} {s:Shared} {it t:Addr} {i:Nat} {items:Array Value} {Q:Value->Shared->Prop} (hh:A.handled=none) (hit:s.heap.IsTupleIter it t i) (ht:s.heap.IsTuple t items) (hx:items[i]?=none)
  (hE:∀ h' e,Heap.ExtBut it s.heap h'->(∃ o,h'.get? e=some o/\o.cls=.type "StopIteration")->E (.ref e) { s with heap:=h' }):wpAny (model prog w) A (Builtin.SmallTypes.nextOf (.ref it)) Q E s:=by
 obtain ⟨o,ho,hc,hd⟩:=id hit
 obtain ⟨ol,hol,_,nl,hdl⟩:=ht
 have hT:=hit.typeIs
 unfold Builtin.SmallTypes.nextOf
 refine wpAny_bind (wpAny_callSpecial?_slot (name:=Str.ofString "__next__") hT PySem.F.slot_tuple_iterator_next (wpAny_call_entry PySem.F.slot_tuple_iterator_next hT PySem.F.entry_tuple_iterator_next ?_ (PySem.F.args_tuple_iterator_next_1 _)))
 refine wpAny_bind (m:=field (.ref it) 0) (wpAny_field ho hd (x:=.ref t) rfl ?_)
 have hno:¬ ((Value.ref t==Value.none)=true):=Qt
 show wpAny _ _ (if (Value.ref t==Value.none)=true then _ else _) _ _ s
 rw [if_neg hno]
 refine wpAny_bind (m:=field (.ref it) 1) (wpAny_field ho hd (x:=.int i 0) rfl ?_)
 refine wpAny_bind (m:=seqItems? (.ref t)) (wpAny_seqItems hol hdl ?_)
 simp only [Xh,hx]
 refine wpAny_bind (wpAny_rule (wpAny_bind (wpAny_setField ho hd (by simp) ?_)))
 refine wpAny_bind (m:=newExc (.type "StopIteration") []) ?_
 simp only [newExc,newTuple]
 refine wpAny_bind (wpAny_newObj_type ?_ (by size_fits))
 refine wpAny_bind (m:=firstArgMember _ _) (wpAny_of_eq (a:=Value.none) (by first | rfl | (simp only [firstArgMember]; rfl)) ?_)
 refine wpAny_newObj_type ?_ (by size_fits)
 simp only [raiseNew]
 refine wpAny_bind (wpAny_handled ?_)
 first | rw [show A.in1.handled=none from hh] | rw [hh]
 refine wpAny_bind (wpAny_pure (wpAny_throw ?_))
 exact hE _ _ (((Heap.SameBut.update ..).extBut.push _).push _) ⟨_,Ql _ rfl,rfl⟩
theorem wM (prog:Program) (w:World) (i l:Addr) (items:Array Value) (hne:l≠i):Sub prog w i l items.size (fun k v=>items[k]?=some v) (fun k h=>h.IsTupleIter i l k/\h.IsTuple l items) where
 keep:=fun k h h' st kp=>⟨st.1.at fun o e=>kp i (.inl rfl) o e,by obtain ⟨o,e,r⟩:=st.2; exact ⟨o,kp l (.inr rfl) o e,r⟩⟩
 obj:=fun k h st=>by
  obtain ⟨⟨o,e,_,d⟩,⟨o2,e2,_⟩⟩:=st
  exact ⟨⟨o,e,fun v z=>by rw [d] at z; cases z⟩,o2,e2⟩
 item:=fun A k s Q E hk st hQ=>jK st.1 st.2 (Array.getElem?_eq_getElem hk) fun h' a b=>hQ _ h' (Array.getElem?_eq_getElem hk) ⟨a,by obtain ⟨o,e,r⟩:=st.2; exact ⟨o,b.extBut l o hne e,r⟩⟩ b
 done:=fun A s Q E hh st hE=>kH hh st.1 st.2 (Array.getElem?_eq_none (Qi _)) hE
section
variable {prog:Program} {w:World} {A:Around} {E:Value->Shared->Prop} {s:Shared} {z TI TO i1 i2 l1 l2:Addr} {n1 n2:Nat} {P1 P2:Nat->Value->Prop} {st1 st2:Nat->Heap->Prop}
end
inductive Sk where
 | l | t
def SqK (k:Sk) (K:PySem.W.Frag) (H:Hp) (a:Addr) (xs:List V):Prop:=match k with | .l=>SqL K H a xs | .t=>SqT K H a xs
def AtK (k:Sk) (h:Heap) (a:Addr) (its:Array Value):Prop:=match k with | .l=>h.IsList a its | .t=>h.IsTuple a its
def ItK (k:Sk) (h:Heap) (i a:Addr) (n:Nat):Prop:=match k with | .l=>h.IsListIter i a n | .t=>h.IsTupleIter i a n
def itK (k:Sk) (a:Addr):Obj:=match k with | .l=>{ cls:=.type "list_iterator",data:=.fields #[.ref a,.int 0 0] } | .t=>{ cls:=.type "tuple_iterator",data:=.fields #[.ref a,.int 0 0] }
theorem ItK.new (k:Sk) (h:Heap) (a:Addr):ItK k (h.push (itK k a)) h.objs.size a 0:=by
 cases k
 ·exact ⟨_,Ql _ rfl,rfl,rfl⟩
 ·exact ⟨_,Ql _ rfl,rfl,rfl⟩
theorem ItK.obj {k:Sk} {h:Heap} {i a:Addr} {n:Nat} (x:ItK k h i a n):∃ o,h.get? i=some o/\∀ v,o.data≠.cell v:=by
 cases k
 ·obtain ⟨o,e,_,d⟩:=x; exact ⟨o,e,fun v z=>by rw [d] at z; cases z⟩
 ·obtain ⟨o,e,_,d⟩:=x; exact ⟨o,e,fun v z=>by rw [d] at z; cases z⟩
theorem ItK.at {k:Sk} {h h':Heap} {i a:Addr} {n:Nat} (x:ItK k h i a n) (kp:∀ o,h.get? i=some o->h'.get? i=some o):ItK k h' i a n:=by
 cases k
 ·exact Heap.IsListIter.at x kp
 ·exact Heap.IsTupleIter.at x kp
theorem AtK.at {k:Sk} {h h':Heap} {a:Addr} {its:Array Value} (x:AtK k h a its) (kp:∀ o,h.get? a=some o->h'.get? a=some o):AtK k h' a its:=by
 cases k
 ·exact Heap.IsList.at x kp
 ·obtain ⟨o,e,r⟩:=x; exact ⟨o,kp o e,r⟩
theorem aAw (k:Sk) (prog:Program) (w:World) (i l:Addr) (items:Array Value) (hne:l≠i):Sub prog w i l items.size (fun j v=>items[j]?=some v) (fun j h=>ItK k h i l j/\AtK k h l items):=by
 cases k
 ·exact yE prog w i l items hne
 ·exact wM prog w i l items hne
theorem aA6 {prog:Program} {w:World} {A:Around} {E:Value->Shared->Prop} {s:Shared} {k:Sk} {a:Addr} {its:Array Value} {Q:Value->Shared->Prop} (h:AtK k s.heap a its) (hQ:Q (.ref s.heap.objs.size) { s with heap:=s.heap.push (itK k a) }):wpAny (model prog w) A (pyIter (.ref a)) Q E s:=by
 cases k
 ·exact wpAny_pyIter_list h hQ
 ·exact wpAny_pyIter_tuple h hQ
section
variable {X:Cx} {pins:List (Addr×Obj)} {σ:St} {H:Hp} {s:Shared}
theorem Inv.seqK (I:Inv X pins σ H s) {k:Sk} {a:Addr} {xs:List V} (h:SqK k X.K H a xs):∃ its:List Value,aO xs its/\AtK k s.heap a its.toArray:=by
 cases k
 ·obtain ⟨its,r,p,_⟩:=I.list h; exact ⟨its,r,p.isList⟩
 ·obtain ⟨its,r,p,_⟩:=I.tuple h; exact ⟨its,r,p⟩
theorem Inv.seqK_inj (I:Inv X pins σ H s) {k:Sk} {a:Addr} {xs ys:List V} (h:SqK k X.K H a xs) (h':SqK k X.K H a ys):xs=ys:=by
 cases k
 ·exact I.list_inj h h'
 ·exact I.tuple_inj h h'
theorem Inv.seq_ne (I:Inv X pins σ H s) {k:Sk} {a b:Addr} {xs:List V} (h:SqK k X.K H a xs) (f:kC X pins H b):a≠b:=by
 have rd:∀ {u:HO},Rd H a u->a≠b:=fun {u} r z=>by
  rcases r with r | ⟨o,r⟩ <;> (rw [z,f.1] at r; cases r)
 have kk:∀ {o:Obj},X.K.lookup a=some o->a≠b:=fun {o} e z=>by
  have e1:=I.ok.mod.kin a o e
  rcases f.2.2.2.1 with q | q
  ·exact I.ok.noex a o e1 (z ▸ q)
  ·exact Jn _ (Qo (Qk (I.ok.bs a o e1).1) (z ▸ q))
 cases k
 ·rcases h with h | ⟨o,_,_,e,_⟩
  ·exact rd h
  ·exact kk e
 ·rcases h with h | ⟨o,_,_,e,_⟩
  ·exact rd h
  ·exact kk e
theorem Inv.turnedL {h':Heap} {t':Nat} (ch:List Addr) (I:Inv X pins σ H s) (k:∀ b o,b∉ch->s.heap.get? b=some o->h'.get? b=some o) (f:∀ b∈ch,kC X pins H b):Inv X pins σ H { s with heap:=h',toks:=t' }:=by
 have nit:∀ b u,H b=some u->b∉ch:=fun b u e z=>by rw [(f b z).1] at e; cases e
 have nL:X.env.locals∉ch:=fun z=>(f _ z).2.1 rfl
 refine I.step (g':=s.gens) (d':=s.drawn) (ch:=ch) (fun b hb=>⟨(f b hb).2.2.2.1,(f b hb).2.1,(f b hb).2.2.2.2.1,(f b hb).2.2.2.2.2⟩) (fun b o _ _ hc e _=>k b o hc e) (fun b o _ _ hc e _=>⟨o.slots,k b o hc e⟩) (fun _ _ _ _ n=>n)
  (fun b o hc e=>⟨o,k b o hc e⟩) (fun _ _ e=>e) (fun _ _ _ e=>e) (fun b ps e=>⟨#[],by rw [e]; simp⟩) (fun m hm=>?_) (fun b u e=>?_) I.bare
 ·obtain ⟨o,es,ep,ho,r⟩:=hm
  exact ⟨o,es,ep,k _ o nL ho,r⟩
 ·refine (I.hok b u e).stay (fun c v hc q=>k c v ?_ q) (fun _ q=>q) fun _ _ q=>q
  rcases hc with z | z
  ·rw [z]; exact nit b u e
  ·exact nit c _ z
theorem Inv.trackO {D:Addr} {u:HO} (I:Inv X pins σ H s) (new:bB X.prog X.w (upd H D u) s.heap D u) (hn:H D=none) (hL:D≠X.env.locals)
  (h1:X.s₀.heap.objs.size<=D) (h2:∀ x c,X.env.cells.lookup x=some c->c≠D) (h3:∀ p∈X.pn++pins,p.1≠D):Inv X pins σ (upd H D u) s:=by
 have ne:∀ b v,H b=some v->b≠D:=fun b v e z=>by rw [z,hn] at e; cases e
 refine I.step (g':=s.gens) (d':=s.drawn) (t':=s.toks) (h':=s.heap) (ch:=[D]) (fun b hb=>?_) (fun b o _ _ _ e _=>e) (fun b o _ _ _ e _=>⟨o.slots,e⟩) (fun b o hc _ n=>?_) (fun b o _ e=>⟨o,e⟩)
  (fun b xs e=>by rw [aD (ne b _ e)]; exact e) (fun b o v e=>by rw [aD (ne b _ e)]; exact e) (fun b ps e=>⟨#[],by rw [aD (ne b _ e),e]; simp⟩) (fun _ h=>h) (fun b v e=>?_) I.bare
 ·have e:b=D:=by simpa using hb
  subst e
  exact ⟨.inr h1,hL,h2,h3⟩
 ·rw [aD (by simpa using hc)]; exact n
 ·by_cases hb:b=D
  ·subst hb
   rw [aA] at e; cases e
   exact new
  ·rw [aD hb] at e
   exact (I.hok b v e).stay (fun c v _ q=>q) (fun c q=>by rw [aD (ne c _ q)]; exact q) fun c xs q=>by rw [aD (ne c _ q)]; exact q
end
abbrev zh1 (k1:Sk) (h:Heap) (a:Addr):Heap:=h.push (itK k1 a)
abbrev zh2 (k1 k2:Sk) (h:Heap) (a b:Addr):Heap:=(zh1 k1 h a).push (itK k2 b)
abbrev zh3 (k1 k2:Sk) (h:Heap) (a b:Addr):Heap:=(zh2 k1 k2 h a b).push { cls:=.type "tuple",data:=.seq #[.ref h.objs.size,.ref (zh1 k1 h a).objs.size] }
abbrev zh4 (k1 k2:Sk) (h:Heap) (a b:Addr):Heap:=(zh3 k1 k2 h a b).push { cls:=.type "tuple",data:=.seq #[.none,.none] }
abbrev zh5 (k1 k2:Sk) (h:Heap) (a b:Addr):Heap:=(zh4 k1 k2 h a b).push { cls:=.type "zip",data:=.fields #[.none,.bool false,.bool false,.ref (zh2 k1 k2 h a b).objs.size,.ref (zh3 k1 k2 h a b).objs.size] }
theorem yF (k1 k2:Sk) (a b:Addr) (xs ys:Array Value) :
  Meets (Builtin.«zip.__new__» ⟨[.type "zip",.ref a,.ref b],[]⟩) (fun _ R s=>AtK k1 s.heap a xs/\AtK k2 s.heap b ys/\R (.ok (.ret (.ref (zh4 k1 k2 s.heap a b).objs.size))) { s with heap:=zh5 k1 k2 s.heap a b }) :=
 .of_wp fun prog w A R s h=>by
  obtain ⟨hp,g,d,tk,os⟩:=s
  obtain ⟨hl1,hl2,h⟩:=h
  have hsub:=sub_zip
  have hA:AtK k1 (Shared.heap ⟨hp,g,d,tk,os⟩) a xs:=hl1
  have hB:AtK k2 (Shared.heap ⟨hp.push (itK k1 a),g,d,tk,os⟩) b ys:=AtK.at hl2 fun o e=>Qc _ e
  wp_walk using aA6 hA,aA6 hB
  exact ⟨_,rfl,h⟩
section
variable {X:Cx} {es:List Expr} {x1:Nat} {tpos:Pos}
end
open PySem.AutoSeq1 (wpAny_loadPart')
section
variable {X:Cx}
theorem aAx (xs:List V) (k:Nat):rY xs none (some (k:Int))=xs.take k:=by
 unfold rY
 rw [HT.sIx_none,HT.sIx_nat,List.drop_zero,Nat.sub_zero]
 by_cases h:k<=xs.length
 ·rw [Wk h]
 ·rw [Nat.min_eq_right (by omega),Xb (Qi _),Xb (by omega)]
end
def vD (N frn:List Str) (fr:List Nat):Bool:=frn.length==fr.length && (frn.zip fr).all fun y=>N[y.2]?==some y.1
theorem cP {X:Cx} {scope:Scope} {own frn:List Str} {fr:List Nat} (sc:Scope) (N:List Str) (h1:X.env.scope=sc) (h2:X.N=N) (h:(kG sc scope own frn && vD N frn fr)=true):CompOk X scope own fr frn:=by
 rw [Ju] at h
 obtain ⟨ha,hb⟩:=h
 unfold vD at hb
 simp only [Ju,beq_iff_eq,Xg] at hb
 refine ⟨by rw [h1]; exact ha,fun k x hk=>?_,hb.1.symm⟩
 have hlt:k < fr.length:=by rw [<- hb.1]; exact (Qa.mp hk).1
 refine ⟨fr[k],Qb hlt,?_⟩
 have hm:(x,fr[k])∈frn.zip fr:=by
  refine Qe (i:=k) ?_
  rw [Jo]
  exact ⟨hk,Qb hlt⟩
 rw [h2]
 exact hb.2 _ hm
section
variable {J:It} {own:Nat} {fr:List Nat} {g:TG} {tt:TT} {te:TE} {σ:St} {H:Hp} {Q:Hp->List V->Prop}
theorem qL (n:Nat) (hn:n<=sizeLine) (SH:St->Prop) (Pv:Nat->List V->Hp->Prop) (hσ:SH (blk own fr σ)) (h0:Pv 0 [] H) (hlen:∀ i ys H,Pv i ys H->ys.length<=i)
  (hstop:∀ ys H,Pv n ys H->J.stop n H) (hgo:∀ i ys H,i < n->Pv i ys H->J.go i H)
  (hs:∀ i ys σ x H H',i < n->SH σ->Pv i ys H->J.yld i H x H'->ys.length < sizeLine->g x σ H' fun σ2 H2=>tt σ2 H2 fun b H3=>if b=true then te σ2 H3 fun y H4=>ys.length < sizeLine/\SH σ2/\Pv (i+1) (ys++[y]) H4 else SH σ2/\Pv (i+1) ys H3)
  (hd:∀ ys H,Pv n ys H->Q H ys) :
  ∃ W:Nat->Nat->List V->St->Hp->Prop,(∃ m,W 0 m [] (blk own fr σ) H)/\∀ i m ys σ' H,W i m ys σ' H ->
   (J.stop i H/\Q H ys) ∨
   (J.go i H/\∃ N:List V->St->Hp->Prop,(∀ ys' σ2 H2,N ys' σ2 H2->∃ m',m' < m/\W (i+1) m' ys' σ2 H2) /\
    ∀ x H',J.yld i H x H'->g x σ' H' fun σ2 H2=>tt σ2 H2 fun b H3=>if b=true then te σ2 H3 fun y H4=>ys.length < sizeLine/\N (ys++[y]) σ2 H4 else N ys σ2 H3):=by
 refine ⟨fun i m ys σ' H=>m=n - i/\i<=n/\SH σ'/\Pv i ys H,⟨n,by simp,Jz _,hσ,h0⟩,?_⟩
 rintro i m ys σ' H ⟨rfl,hi,sh,p⟩
 by_cases hlt:i < n
 ·refine .inr ⟨hgo i ys H hlt p,fun ys' σ2 H2=>SH σ2/\Pv (i+1) ys' H2,fun ys' σ2 H2 ⟨e,q⟩=>⟨n - (i+1),by omega,rfl,hlt,e,q⟩,fun x H' y=>?_⟩
  exact hs i ys σ' x H H' hlt sh p y (by have:=hlen i ys H p; omega)
 ·have e:i=n:=by omega
  subst e
  exact .inl ⟨hstop ys H p,hd ys H p⟩
theorem wN {K:PySem.W.Frag} {a:Addr} {xs:List V} (SH:St->Prop) (Pv:Nat->List V->Hp->Prop) (hn:xs.length<=sizeLine) (hσ:SH (blk own fr σ)) (h0:Pv 0 [] H) (hlen:∀ i ys H,Pv i ys H->ys.length<=i) (hl:∀ i ys H,Pv i ys H->SqL K H a xs)
  (hs:∀ i ys σ x H,xs[i]?=some x->SH σ->Pv i ys H->ys.length < sizeLine->g x σ H fun σ2 H2=>tt σ2 H2 fun b H3=>if b=true then te σ2 H3 fun y H4=>ys.length < sizeLine/\SH σ2/\Pv (i+1) (ys++[y]) H4 else SH σ2/\Pv (i+1) ys H3)
  (hd:∀ ys H,Pv xs.length ys H->Q H ys) :
  ∃ W:Nat->Nat->List V->St->Hp->Prop,(∃ m,W 0 m [] (blk own fr σ) H)/\∀ i m ys σ' H,W i m ys σ' H ->
   ((Itl K a).stop i H/\Q H ys) ∨
   ((Itl K a).go i H/\∃ N:List V->St->Hp->Prop,(∀ ys' σ2 H2,N ys' σ2 H2->∃ m',m' < m/\W (i+1) m' ys' σ2 H2) /\
    ∀ x H',(Itl K a).yld i H x H'->g x σ' H' fun σ2 H2=>tt σ2 H2 fun b H3=>if b=true then te σ2 H3 fun y H4=>ys.length < sizeLine/\N (ys++[y]) σ2 H4 else N ys σ2 H3):=by
 refine qL xs.length hn SH Pv hσ h0 hlen (fun ys H p=>⟨xs,hl _ _ _ p,Qi _⟩) (fun i ys H hi p=>⟨xs,xs[i],hl _ _ _ p,Qb hi⟩) (fun i ys σ x H H' hi sh p y hz=>?_) hd
 obtain ⟨e,y⟩:=y
 subst e
 exact hs i ys σ x _ (y xs (hl _ _ _ p)) sh p hz
theorem dU {lo:Int} {n:Nat} (SH:St->Prop) (Pv:Nat->List V->Hp->Prop) (hn:n<=sizeLine) (hσ:SH (blk own fr σ)) (h0:Pv 0 [] H) (hlen:∀ i ys H,Pv i ys H->ys.length<=i)
  (hs:∀ i ys σ H,i < n->SH σ->Pv i ys H->ys.length < sizeLine->g (.int (lo+i)) σ H fun σ2 H2=>tt σ2 H2 fun b H3=>if b=true then te σ2 H3 fun y H4=>ys.length < sizeLine/\SH σ2/\Pv (i+1) (ys++[y]) H4 else SH σ2/\Pv (i+1) ys H3)
  (hd:∀ ys H,Pv n ys H->Q H ys) :
  ∃ W:Nat->Nat->List V->St->Hp->Prop,(∃ m,W 0 m [] (blk own fr σ) H)/\∀ i m ys σ' H,W i m ys σ' H ->
   ((Itr lo n).stop i H/\Q H ys) ∨
   ((Itr lo n).go i H/\∃ N:List V->St->Hp->Prop,(∀ ys' σ2 H2,N ys' σ2 H2->∃ m',m' < m/\W (i+1) m' ys' σ2 H2) /\
    ∀ x H',(Itr lo n).yld i H x H'->g x σ' H' fun σ2 H2=>tt σ2 H2 fun b H3=>if b=true then te σ2 H3 fun y H4=>ys.length < sizeLine/\N (ys++[y]) σ2 H4 else N ys σ2 H3):=by
 refine qL n hn SH Pv hσ h0 hlen (fun ys H p=>Qi _) (fun i ys H hi p=>hi) (fun i ys σ x H H' hi sh p y hz=>?_) hd
 obtain ⟨e,y⟩:=y
 subst e y
 exact hs i ys σ _ hi sh p hz
end
section
variable {X:Cx}
theorem lJ:∀ {xs:List V} {us:List Value},xs.length=us.length->(∀ (j:Nat) (x:V) (u:Value),xs[j]?=some x->us[j]?=some u->aQ x u)->aO xs us
 | [],[],_,_=>.nil
 | [],_::_,h,_=>by cases h
 | _::_,[],h,_=>by cases h
 | x::xs,u::us,h,k=>.cons (k 0 x u rfl rfl) (lJ (by simpa using h) fun j y v hy hv=>k (j+1) y v hy hv)
theorem fM (hc:X.calm=true):dA X (.type "list") (fun xs H Q=>∃ (a:Addr) (n:Nat),xs = [.ref a]/\H a=some (.rng 0 n)/\n<=1000/\∀ p,H p=none->Q (.ref p) (upd H p (.lst ((cL n).map V.int)))):=by
 intro pins s σ H xs us Q I r h
 obtain ⟨a,n,rfl,ha,hn,q⟩:=h
 obtain ⟨u,rfl,rx⟩:=eK r
 cases rx
 obtain ⟨t,u,v,e⟩:=I.hok a _ ha
 have hsz:Builtin.Range.rangeSize 0 (n:Int) 1=(n:Int):=by rw [rangeSize_one]; split <;> omega
 have hsm:Builtin.Range.small 0 (n:Int) 1=true:=small_one (by omega) (by omega) (by omega) (by omega)
 refine call_list_range (I.ok.hd hc) e hsm hsz (Ja hn (by decide)) fun h' tk acc' c' kp hl hi=>?_
 have hv:aO ((cL n).map V.int) acc'.toList:=by
  obtain ⟨h1,h2⟩:=hi
  refine lJ (by unfold cL; simp [h1]) fun j x u hx hu=>?_
  have hj:j < n:=by
   have:=(Qa.mp hu).1
   rw [Array.length_toList,h1] at this
   exact this
  obtain ⟨t,rfl⟩:=h2 j u (by rw [<- Array.getElem?_toList]; exact hu)
  unfold cL at hx
  rw [Qg,Qg,Wu hj] at hx
  have e:V.int (j:Int)=x:=Option.some.inj hx
  rw [<- e]
  exact ⟨t,by rw [Zo,Int.mul_one]⟩
 have hlen:((cL n).map V.int).length<=sizeLine:=by unfold cL; rw [Qd,Qd,List.length_range,sizeLine_eq]; omega
 exact ⟨.ref s.heap.objs.size,_,I.laid (t':=tk) kp (Qi _) (show bB X.prog X.w _ h' _ (.lst _) from ⟨hlen,acc'.toList,c',hv,hl⟩),rfl,q _ (I.hok.fresh (Qi _))⟩
theorem sI {α β:Type} {f g:α->Option β}:∀ {l:List α},(∀ x∈l,f x=g x)->l.filterMap f=l.filterMap g
 | [],_=>rfl
 | x::r,h=>by rw [Ze,Ze,h x (Qr ..),sI fun y hy=>h y (Qq _ hy)]
theorem yG (xs:Array Value):((List.range xs.size).filterMap fun (k:Nat)=>xs[((xs.size:Int) - 1+(k:Int)*(-1)).toNat]?).toArray=xs.toList.reverse.toArray:=by
 have h:=HT.pick_gen xs.toList.reverse.toArray 0 xs.size
 have e:(List.range xs.size).filterMap (fun (k:Nat)=>xs[((xs.size:Int) - 1+(k:Int)*(-1)).toNat]?)=(List.range xs.size).filterMap (fun (m:Nat)=>xs.toList.reverse.toArray[(((0:Nat):Int)+(m:Int)*1).toNat]?):=by
  refine sI fun k hk=>?_
  have hk':=Zu.mp hk
  have h1:((xs.size:Int) - 1+(k:Int)*(-1)).toNat=xs.size - 1 - k:=by omega
  have h2:(((0:Nat):Int)+(k:Int)*1).toNat=k:=by omega
  rw [h1,h2]
  simp only [List.getElem?_toArray]
  rw [Ym (by simpa using hk')]
  simp
 rw [e,h]
 congr 1
 rw [List.drop_zero,Xb (by simp)]
end
def Vw (S:List Addr) (H:Hp):Hp:=fun b=>if b∈S then none else H b
theorem Vw.out {S:List Addr} {H:Hp} {b:Addr} (n:b∉S):Vw S H b=H b:=by unfold Vw; rw [if_neg n]
theorem Vw.sub {S:List Addr} {H:Hp}:aG (Vw S H) H:=fun b o h=>by
 by_cases z:b∈S
 ·unfold Vw at h; rw [if_pos z] at h; cases h
 ·rw [Vw.out z] at h; exact h
theorem Vw.keep {S:List Addr} {H H':Hp} (e:∀ b o,b∉S->H b=some o->H' b=some o):aG (Vw S H) (Vw S H'):=fun b o h=>by
 by_cases z:b∈S
 ·unfold Vw at h; rw [if_pos z] at h; cases h
 ·rw [Vw.out z] at h ⊢; exact e b o z h
theorem Vw.same {S:List Addr} {H H':Hp} (e:aG H H'):aG (Vw S H) (Vw S H'):=Vw.keep fun b o _ h=>e b o h
def Fx (S:List Addr) (H:Hp):Prop:=∀ b∈S,∃ xs,H b=some (.lst xs)
theorem Fx.same {S:List Addr} {H H':Hp} (f:Fx S H) (e:aG H H'):Fx S H':=fun b hb=>let ⟨xs,h⟩:=f b hb; ⟨xs,e b _ h⟩
theorem Fx.new {S:List Addr} {H:Hp} {p:Addr} (f:Fx S H) (h:H p=none):p∉S:=fun z=>by
 obtain ⟨xs,q⟩:=f p z
 rw [q] at h; cases h
theorem Fx.nil {H:Hp}:Fx [] H:=fun _ h=>(Qy h).elim
section
variable {K:PySem.W.Frag} {S:List Addr} {H H' H0:Hp}
theorem Fx.seqT {a:Addr} {xs:List V} (f:Fx S H) (h:SqT K H a xs):SqT K (Vw S H) a xs:=by
 rcases h with (h | ⟨o,h⟩) | h
 ·exact .inl (.inl (by rw [Vw.out fun z=>by obtain ⟨ys,q⟩:=f a z; rw [q] at h; cases h]; exact h))
 ·exact .inl (.inr ⟨o,by rw [Vw.out fun z=>by obtain ⟨ys,q⟩:=f a z; rw [q] at h; cases h]; exact h⟩)
 ·exact .inr h
theorem Vw.at {p:Addr} {o:HO} (f:Fx S H) (h:H p=none):Vw S (upd H p o) p=some o:=by rw [Vw.out (f.new h)]; exact aA
def Dn (K:PySem.W.Frag) (S:List Addr) (H:Hp) (x:V):Prop:=∃ d,Den K (Vw S H) d x
def DT (K:PySem.W.Frag) (S:List Addr) (n:Nat) (H:Hp) (x:V):Prop:=∃ a xs,x=.ref a/\SqT K (Vw S H) a xs/\xs.length<=n/\∀ y∈xs,Dn K S H y
def II (_:Hp) (x:V):Prop:=∃ i,x=.int i
class Mo (R:Hp->V->Prop):Prop where
 mo:∀ {H H':Hp} {v:V},aG H H'->R H v->R H' v
theorem Dn.keep {x:V} (h:Dn K S H x) (e:aG (Vw S H) (Vw S H')):Dn K S H' x:=let ⟨d,h⟩:=h; ⟨d,e.den _ _ h⟩
theorem Dn.same {x:V} (h:Dn K S H x) (e:aG H H'):Dn K S H' x:=h.keep (Vw.same e)
theorem DT.keep {n:Nat} {x:V} (h:DT K S n H x) (e:aG (Vw S H) (Vw S H')):DT K S n H' x:=let ⟨a,xs,h1,h2,h3,h4⟩:=h; ⟨a,xs,h1,e.seqT h2,h3,fun y hy=>(h4 y hy).keep e⟩
theorem DT.same {n:Nat} {x:V} (h:DT K S n H x) (e:aG H H'):DT K S n H' x:=h.keep (Vw.same e)
instance:Mo (Dn K S):=⟨fun e h=>Dn.same h e⟩
instance {n:Nat}:Mo (DT K S n):=⟨fun e h=>DT.same h e⟩
instance:Mo II:=⟨fun _ h=>h⟩
theorem yH (i:Int):Dn K S H (.int i):=⟨.int i,dE.mpr rfl⟩
theorem II.dn {x:V} (h:II H x):Dn K S H x:=let ⟨i,h⟩:=h; h ▸ yH i
theorem yI:∀ {xs:List V},(∀ x∈xs,Dn K S H x)->∃ ds,aW K (Vw S H) ds xs
 | [],_=>⟨[],cY.mpr rfl⟩
 | x::r,h=>by
  obtain ⟨d,hd⟩:=h x (Qr ..)
  obtain ⟨ds,hds⟩:=yI (xs:=r) fun y hy=>h y (Qq _ hy)
  exact ⟨d::ds,bO.mpr ⟨x,r,rfl,hd,hds⟩⟩
theorem DT.dn {n:Nat} {x:V} (h:DT K S n H x):Dn K S H x:=by
 obtain ⟨a,xs,rfl,h2,_,h4⟩:=h
 obtain ⟨ds,hds⟩:=yI h4
 exact ⟨.tuple ds,cO.mpr ⟨a,xs,rfl,h2,hds⟩⟩
theorem aAy {l:List Int}:∀ x∈l.map V.int,Dn K S H x:=fun x hx=>by
 obtain ⟨i,_,rfl⟩:=Js.mp hx
 exact yH i
theorem DT.ints {a:Addr} {l:List Int} {n:Nat} (f:Fx S H) (h:SqT K H a (l.map V.int)) (hn:l.length<=n):DT K S n H (.ref a):=⟨a,_,rfl,f.seqT h,by rw [Qd]; exact hn,aAy⟩
def Al (H0:Hp) (S:List Addr) (te:TE) (σ:St) (R:Hp->V->Prop):Prop:=∀ H,aG H0 H->Fx S H->∀ Q:VK,(∀ v H',aG H H'->R H' v->Q v H')->te σ H Q
variable {σ:St} {R R':Hp->V->Prop} {te ta tb ts:TE} {t tr:TA} {tl th:TO}
theorem Al.mono (h:Al H0 S te σ R) (m:∀ H v,R H v->R' H v):Al H0 S te σ R':=fun H s f Q k=>h H s f Q fun v H' s' r=>k v H' s' (m H' v r)
theorem Al.i (h:Al H0 S te σ II):Al H0 S te σ (Dn K S):=h.mono fun _ _ r=>r.dn
theorem Al.d {n:Nat} (h:Al H0 S te σ (DT K S n)):Al H0 S te σ (Dn K S):=h.mono fun _ _ r=>r.dn
instance {a:Addr} {xs:List V}:Mo (fun H v=>v=.ref a/\SqT K H a xs):=⟨fun e h=>⟨h.1,e.seqT h.2⟩⟩
instance {x:V}:Mo (fun _ v=>v=x):=⟨fun _ h=>h⟩
end
open PySem.AutoSeq1 (wpAny_loadPart')
theorem nf {b:Bool} (h:b=false):decide (b=true)=false:=by rw [h]; rfl
theorem nt {b:Bool} (h:b=true):decide (b=true)=true:=by rw [h]; rfl
theorem mO (l:Addr) (items:Array Value) (n:Nat) (dd:Option Addr) (sl:Array (Option Value)) (x:Int) (u:Tok) (h1:1 < x) (h2:x<=1000) (hne:items.isEmpty=false) (hz:items.size<=1000) :
  Meets (Builtin.«tuple.__mul__» ⟨[.ref l,.int x u],[]⟩) (fun _ R s=>s.heap.get? l=some { cls:=.type "tuple",dict:=dd,data:=.seq items n,slots:=sl }/\R (.ok (.ret (Value.ref s.heap.objs.size))) { s with heap:=s.heap.push { cls:=Value.type "tuple",data:=Data.seq (List.foldl (fun x1 x2=>x1++x2) #[] (List.replicate x.toNat items)) },toks:=s.toks }) :=
 .of_wp fun prog w A R s h=>by
  obtain ⟨hp,g,d,tk,os⟩:=s
  obtain ⟨hl,h⟩:=h
  have f1:=AutoSeq1.idx_int
  have f2:=AutoSeq1.sub_tuple_tuple
  wp_walk using wpAny_loadPart' hl
  refine wpAny_ite_false (nf (show (decide (x < -2^63) || decide (x≥2^63))=false from by rw [decide_eq_false (show ¬ x < -2^63 by omega),decide_eq_false (show ¬ x≥2^63 by omega)]; rfl)) ?_
  wp_walk using wpAny_loadPart' hl
  refine wpAny_ite_false (nf (show (items.isEmpty || x==1)=false from by rw [hne,beq_eq_false_iff_ne.mpr (show x≠1 by omega)]; rfl)) ?_
  wp_walk using wpAny_loadPart' hl
  refine wpAny_ite_false (nf (show (decide (x<=0) || items.isEmpty)=false from by rw [hne,decide_eq_false (show ¬ x<=0 by omega)]; rfl)) ?_
  wp_walk using wpAny_loadPart' hl
  have hm:(items.size:Int)*x<=1000*1000:=Int.mul_le_mul (by omega) h2 (by omega) (by omega)
  refine wpAny_ite_false (decide_eq_false (show ¬ (items.size:Int)*x > (2^63 - 1) / 8 by omega)) ?_
  wp_walk using wpAny_loadPart' hl
  refine wpAny_ite_false (nf (show decide ((items.size:Int)*x > (sizeLine:Int))=false from decide_eq_false (by rw [sizeLine_eq]; omega))) ?_
  have hsz:¬ (List.foldl (fun x1 x2=>x1++x2) #[] (List.replicate x.toNat items)).size > sizeLine:=by
   have e:=iH items.toList x.toNat []
   rw [Yc] at e
   have e2:List.foldl (fun x1 x2=>x1++x2) #[] (List.replicate x.toNat items)=(List.replicate x.toNat items.toList).flatten.toArray:=e
   rw [e2,Qp,lI,Array.length_toList,sizeLine_eq]
   have:x.toNat*items.size<=1000*1000:=Nat.mul_le_mul (by omega) hz
   omega
  wp_walk using wpAny_loadPart' hl
  exact ⟨_,rfl,h⟩
theorem mP (l:Addr) (items:Array Value) (n:Nat) (dd:Option Addr) (sl:Array (Option Value)) (x:Int) (u:Tok) (h1:1 < x) (h2:x<=1000) (hne:items.isEmpty=true) :
  Meets (Builtin.«tuple.__mul__» ⟨[.ref l,.int x u],[]⟩) (fun _ R s=>s.heap.get? l=some { cls:=.type "tuple",dict:=dd,data:=.seq items n,slots:=sl }/\R (.ok (.ret (Value.ref l))) s) :=
 .of_wp fun prog w A R s h=>by
  obtain ⟨hp,g,d,tk,os⟩:=s
  obtain ⟨hl,h⟩:=h
  have f1:=AutoSeq1.idx_int
  have f2:=AutoSeq1.sub_tuple_tuple
  wp_walk using wpAny_loadPart' hl
  refine wpAny_ite_false (nf (show (decide (x < -2^63) || decide (x≥2^63))=false from by rw [decide_eq_false (show ¬ x < -2^63 by omega),decide_eq_false (show ¬ x≥2^63 by omega)]; rfl)) ?_
  wp_walk using wpAny_loadPart' hl
  exact ⟨_,rfl,h⟩
theorem fT:fillsNumberSlot (.type "tuple") "mul" = pure false :=
 PySem.fillsNumberSlot_seq (id := "tuple.__mul__") (r:=some (.builtin "tuple.__rmul__")) PySem.F.slot_tuple_mul.lookup (by decide +kernel) PySem.F.slot_tuple_rmul.lookup (by decide +kernel)
theorem jL:seqRepeat? (.type "tuple")=pure (some (.builtin "tuple.__mul__")):=by
 unfold seqRepeat?
 rw [PySem.seqSlot_of (T := "tuple") (name := "__mul__") (id := "tuple.__mul__") PySem.F.slot_tuple_mul.lookup (by decide +kernel),PySem.seqSlot_of (T := "tuple") (name := "__rmul__") (id := "tuple.__rmul__") PySem.F.slot_tuple_rmul.lookup (by decide +kernel)]
 rfl
theorem gX (a:Int) (t:Tok) (l:Addr) (items:Array Value) (n:Nat) (dd:Option Addr) (sl:Array (Option Value)) :
  Meets (Builtin.«int.__rmul__» ⟨[.int a t,.ref l],[]⟩) (fun _ R s=>s.heap.get? l=some { cls:=.type "tuple",dict:=dd,data:=.seq items n,slots:=sl }/\R (.ok (.ret Value.notImplemented)) s) :=
 .of_wp fun prog w A R s h=>by
  obtain ⟨hp,g,d,tk,os⟩:=s
  obtain ⟨hl,h⟩:=h
  wp_walk using wpAny_loadPart' hl
  exact ⟨_,rfl,h⟩
def aCk (K:PySem.W.Frag):R2:=fun x y H Q=>∃ a k xs,x=.ref a/\y=.int k/\SqT K H a xs/\1 < k/\k<=1000/\xs.length<=1000/\∀ p H',aG H H'->SqT K H' p (List.replicate k.toNat xs).flatten->Q (.ref p) H'
theorem aAz {X:Cx} {K:PySem.W.Frag} (hK:X.K=K):OpR X (binaryOp .Mult) (aCk K):=by
 subst hK
 intro pins s σ H x y v u Q I rx ry h
 obtain ⟨a,k,xs,rfl,rfl,ha,h1,h2,hz,q⟩:=h
 cases rx
 obtain ⟨t,rfl⟩:=ry
 obtain ⟨its,r,⟨⟨cls,dd,data,sl⟩,ho,hc,n,hd⟩,hzz⟩:=I.tuple ha
 simp only at hc hd
 subst hc hd
 have hl:=r.length
 refine wpAny_binaryOp_repeat_ref (T := "tuple") (U := "int") (by decide) ⟨_,ho,rfl⟩ (fun s'=>typeIs_int s' k t) fT PySem.F.fills_int_mul PySem.F.slot_int_rmul jL PySem.F.slot_int_index.lookup
  (call_meets PySem.F.slot_int_rmul (typeIs_int s k t) PySem.F.entry_int_rmul (PySem.F.args_int_rmul_2 _ _) (gX k t a its.toArray n dd sl) ⟨ho,rfl,⟨_,ho,rfl⟩,?_⟩)
 by_cases hx:xs = []
 ·subst hx
  cases r
  refine call_meets PySem.F.slot_tuple_mul ⟨_,ho,rfl⟩ PySem.F.entry_tuple_mul (PySem.F.args_tuple_mul_2 _ _) (mP a _ n dd sl k t h1 h2 rfl) ⟨ho,?_⟩
  exact ⟨.ref a,H,I,rfl,q a H (aG.refl H) (by rw [List.flatten_replicate_nil]; exact ha)⟩
 ·have hne:its.toArray.isEmpty=false:=by
   cases its with
   | nil=>cases r; exact absurd rfl hx
   | cons _ _=>rfl
  refine call_meets PySem.F.slot_tuple_mul ⟨_,ho,rfl⟩ PySem.F.entry_tuple_mul (PySem.F.args_tuple_mul_2 _ _) (mO a its.toArray n dd sl k t h1 h2 hne (by rw [Qp]; omega)) ⟨ho,?_⟩
  have hnew:List.foldl (fun x1 x2=>x1++x2) #[] (List.replicate k.toNat its.toArray)=(List.replicate k.toNat its).flatten.toArray:=by
   have:=iH its k.toNat []
   rw [Yc] at this
   exact this
  rw [hnew]
  have hlen:(List.replicate k.toNat xs).flatten.length<=sizeLine:=by
   rw [lI,sizeLine_eq]
   have:k.toNat*xs.length<=1000*1000:=Nat.mul_le_mul (by omega) hz
   omega
  refine ⟨.ref _,_,I.laid (t':=s.toks) (o:=.tup (List.replicate k.toNat xs).flatten) (fun b ob q=>Qc _ q) (Qi _) ?_,rfl,q _ _ (aG.new (I.hok.fresh (Qi _))) (SqT.of aA)⟩
  exact ⟨hlen,(List.replicate k.toNat its).flatten,0,r.rep k.toNat,Ql _ rfl⟩
section
variable {X:Cx} {pins:List (Addr×Obj)} {σ:St} {H:Hp} {s:Shared}
theorem Inv.low (I:Inv X pins σ H s):H sysModules=none:=by
 obtain ⟨mm,o,es,ep,e,_⟩:=I.mod.mods
 exact (I.bs _ _ e).2
end
section
variable {K:PySem.W.Frag} {S:List Addr} {H H' H0:Hp} {E E':Hp->V->Prop}
def DTe (K:PySem.W.Frag) (S:List Addr) (E:Hp->V->Prop) (n:Nat) (H:Hp) (x:V):Prop:=∃ a xs,x=.ref a/\SqT K (Vw S H) a xs/\xs.length<=n/\∀ y∈xs,E H y
def LTe (S:List Addr) (E:Hp->V->Prop) (n:Nat) (H:Hp) (x:V):Prop:=∃ a xs,x=.ref a/\Vw S H a=some (.lst xs)/\xs.length<=n/\∀ y∈xs,E H y
instance {n:Nat} [m:Mo E]:Mo (DTe K S E n):=⟨fun e ⟨a,xs,h1,h2,h3,h4⟩=>⟨a,xs,h1,(Vw.same e).seqT h2,h3,fun y hy=>m.mo e (h4 y hy)⟩⟩
instance {n:Nat} [m:Mo E]:Mo (LTe S E n):=⟨fun e ⟨a,xs,h1,h2,h3,h4⟩=>⟨a,xs,h1,Vw.same e _ _ h2,h3,fun y hy=>m.mo e (h4 y hy)⟩⟩
variable {σ:St} {te ta tb ts:TE} {t tr:TA} {tl th:TO}
end
section
variable {env:Env} {gL es:List Expr} {k:Nat} {pos:Pos} {a b c:Expr}
end
def mQ (sc scope:Scope) (z0:Str) (own:List Str) (frn:List Str):Bool :=
 scope.kind==.function && scope.names.all (fun y=>y.2 !=.cell || y.1==z0) && scope.names.all (fun y=>y.2 !=.local || scope.names.lookup y.1==some .local) &&
 scope.names.all (fun y=>y.2 !=.free || sc.names.lookup y.1==some .cell || sc.names.lookup y.1==some .free) && decide (own++frn).Nodup &&
 frn.all (fun x=>scope.names.lookup x==some .free) && scope.names.lookup z0==some .cell && scope.names.all (fun y=>y.2 !=.free || y.1 !=z0)
structure CompOk1 (X:Cx) (scope:Scope) (z0:Str) (own:List Str) (fr:List Nat) (frn:List Str):Prop where
 ck:mQ X.env.scope scope z0 own frn=true
 ix:∀ (k:Nat) (x:Str),frn[k]?=some x->∃ j:Nat,fr[k]?=some j/\X.N[j]?=some x
 len:fr.length=frn.length
 cf:∀ (n:Nat) (cl:List (Str×Addr)),cellsFrom n scope.names cl=(z0,n)::cl
 pc:∀ h:Heap,pushCells h scope.names=h.push { cls:=.type "cell",data:=.cell none }
section
variable {X:Cx} {scope:Scope} {z0:Str} {own frn:List Str} {fr:List Nat}
theorem CompOk1.parts (S:CompOk1 X scope z0 own fr frn):scope.kind=.function/\(∀ y∈scope.names,y.2=.cell->y.1=z0)/\(∀ y∈scope.names,y.2=.local->scope.names.lookup y.1=some .local) /\
  (∀ y∈scope.names,y.2=.free->X.env.scope.names.lookup y.1=some .cell∨X.env.scope.names.lookup y.1=some .free)/\(own++frn).Nodup/\(∀ x∈frn,scope.names.lookup x=some .free)/\scope.names.lookup z0=some .cell/\∀ y∈scope.names,y.2=.free->y.1≠z0:=by
 have h:=S.ck
 unfold mQ at h
 simp only [Ju,Xg,decide_eq_true_eq,Bool.or_eq_true,bne_iff_ne,ne_eq,beq_iff_eq] at h
 obtain ⟨⟨⟨⟨⟨⟨⟨h1,h2⟩,h3⟩,h4⟩,h5⟩,h7⟩,h8⟩,h9⟩:=h
 refine ⟨h1,fun y hy e=>?_,fun y hy e=>?_,fun y hy e=>?_,h5,h7,h8,fun y hy e=>?_⟩
 ·rcases h2 y hy with z | z
  ·exact absurd e z
  ·exact z
 ·rcases h3 y hy with z | z
  ·exact absurd e z
  ·exact z
 ·rcases h4 y hy with (z | z) | z
  ·exact absurd e z
  ·exact .inl z
  ·exact .inr z
 ·rcases h9 y hy with z | z
  ·exact absurd e z
  ·exact z
end
section
variable {X:Cx} {scope:Scope} {z0:Str} {own frn:List Str} {fr:List Nat} {elt tg iter:Expr} {ifs:List Expr} {pos:Pos} {wi:TI} {g:TG} {tt:TT} {te:TE}
theorem CompOk1.clo {pins:List (Addr×Obj)} {σ:St} {H:Hp} {s:Shared} (S:CompOk1 X scope z0 own fr frn) (I:Inv X pins σ H s):closureFor scope X.env=pure (cJ X.env scope.names []):=by
 obtain ⟨p1,p2,p3,p4,p5,p7,p8,p9⟩:=S.parts
 exact uF fun y hy e=>I.ok.has y.1 (p4 y hy e)
end
section
variable {X:Cx}
theorem wO:MtR X "list.index" (fun x vs H Q=>∃ (a:Addr) (ns:List Int) (n:Int) (j:Nat),x=.ref a/\vs = [.int n]/\SqL X.K H a (ns.map V.int)/\ns[j]?=some n/\(∀ m,m < j->ns[m]?≠some n)/\Q (.int (j:Nat)) H):=by
 intro pins s σ H x xs v us Q I rx r h
 obtain ⟨a,ns,n,j,rfl,rfl,ha,hj,hno,q⟩:=h
 obtain ⟨u,rfl,t,rfl⟩:=eK r
 cases rx
 obtain ⟨its,rv,⟨⟨cls,dd,data,sl⟩,k,ho,hc,hdd,hd⟩,hzz⟩:=I.list ha
 simp only at hc hd
 subst hc hd
 have hi:IntsAre its ns:=gC rv
 have hl:=hi.length
 have hjl:j < ns.length:=(Qa.mp hj).1
 have hzl:ns.length<=sizeLine:=by rw [Qd] at hzz; exact hzz
 have val:∀ m (hm:m < its.toArray.size),isInt n its.toArray[m]=decide (ns[m]?=some n):=fun m hm=>by
  have hm':m < its.length:=by simpa using hm
  have hmn:m < ns.length:=by omega
  obtain ⟨w,hw,rw'⟩:=rv.get (i:=m) (x:=.int ns[m]) (by rw [Qg,Qb hmn]; rfl)
  obtain ⟨t',rfl⟩:=rw'
  have e:its.toArray[m]=.int ns[m] t':=by
   have:=Qb hm'
   rw [hw] at this
   simpa using (Option.some.inj this).symm
  rw [e,Qb hmn]
  unfold isInt
  by_cases z:ns[m]=n
  ·simp [z]
  ·simp [z]
 refine call_meets PySem.F.slot_list_index ⟨_,ho,rfl⟩ PySem.F.entry_list_index (PySem.F.args_list_index_2 _ _) (SeqAt.list_indexAt a its.toArray k dd sl (.int n t) (isInt n) j (by simp; omega) (by rw [sizeLine_eq] at hzl; omega) ?_ ?_) ⟨ho,fun y hy=>(eq_isInt n t hi y (by simpa using hy)).at _ _,?_⟩
 ·rw [val,hj]; simp
 ·intro m hm hlt
  rw [val]
  exact decide_eq_false (hno m hlt)
 ·exact ⟨.int _,H,I.tok _,⟨_,rfl⟩,q⟩
end
section
variable {P:Program} {w:World} {K:PySem.W.Frag} {mg:Str->Option Value} {base:Heap} {N:List Str} {qual:Str} {scope:Scope} {f:Addr} {cd:Value} {A:Around} {outer:List Env} {s0:Shared} {H0:Hp} {E:XK}
end
abbrev vbm:List Value:=[.type "ValueError",.type "Exception",.type "BaseException",.type "object"]
def qns:List Str:=["__init__", "__getattribute__", "__getattr__", "__class__"]
inductive TailN (h:Heap) (bmB:List Value):List Value->Prop
 | base:TailN h bmB bmB
 | own {A:Addr} {c0:Value} {dd:Option Addr} {cd:ClassData} {sl:Array (Option Value)} {mA:Str->Option Value} {tl:List Value} :
   h.get? A=some { cls:=c0,dict:=dd,data:=.cls cd,slots:=sl }->h.Ns cd.ns mA->(∀ n∈qns,mA n=none)->TailN h bmB tl->TailN h bmB (.ref A::tl)
theorem TailN.tail {h:Heap} {bmB tl:List Value} (T:TailN h bmB tl):OwnTail h bmB tl:=by
 induction T with
 | base=>exact .base
 | own hA hN hq _ ih=>exact .own hA hN (hq _ (.head _)) ih
theorem TailN.keeps {h h':Heap} {bmB tl:List Value} (T:TailN h bmB tl) (hk:∀ b o,h.get? b=some o->h'.get? b=some o):TailN h' bmB tl:=by
 induction T with
 | base=>exact .base
 | own hA hN hq _ ih=>exact .own (hk _ _ hA) (hN.keeps hk) hq ih
def EcH (h:Heap) (C:Addr) (bm:List Value):Prop:=∃ N nm q bs hdct sn sub ab col dd k0 k1 k2 k3 k5 mN,h.get? C=some (excClassObj nm q C N bs bm hdct sn sub ab col dd k0 k1 k2 k3 k5 "ValueError.__new__")/\h.Ns N mN/\(∀ n∈qns,mN n=none)/\TailN h vbm bm
theorem EcH.keeps {h h':Heap} {C:Addr} {bm:List Value} (x:EcH h C bm) (hk:∀ b o,h.get? b=some o->h'.get? b=some o):EcH h' C bm:=by
 obtain ⟨N,nm,q,bs,hdct,sn,sub,ab,col,dd,k0,k1,k2,k3,k5,mN,hC,hN,hq,T⟩:=x
 exact ⟨N,nm,q,bs,hdct,sn,sub,ab,col,dd,k0,k1,k2,k3,k5,mN,hk _ _ hC,hN.keeps hk,hq,T.keeps hk⟩
section
variable {M:Model} {prog:Program} {w:World} {A:Around} {E:Value->Shared->Prop} {h:Heap} {g:Array GenState} {d:Drawn} {t:Nat} {os:OsState} {a C:Addr} {o:Obj} {bm:List Value}
theorem EcH.has {T:String} (x:EcH h C bm) (hb:vbm.contains (.type T)=true):(Value.ref C::bm).contains (.type T)=true:=by
 obtain ⟨N,nm,q,bs,hdct,sn,sub,ab,col,dd,k0,k1,k2,k3,k5,mN,hC,hN,hmN,TT⟩:=x
 rw [List.contains_cons,TT.tail.hasType hb,Bool.or_true]
end
section
variable {X:Cx}
end
section
variable {P:Program} {w:World} {l:List Env} {H H':Hp} {s s':Shared} {E:XK} {a T C:Addr}
end
section
variable {X:Cx} {pins:List (Addr×Obj)} {σ:St} {H:Hp} {s s':Shared} {E:XK} {e:Value} {M:Model} {A:Around} {F:Value->Shared->Prop} {L:Addr}
end
section
variable {M:Model} {A:Around} {E:Value->Shared->Prop} {h:Heap} {g:Array GenState} {d:Drawn} {t:Nat} {os:OsState} {a C C':Addr} {oe:Obj} {bm bm':List Value}
end
section
variable {X:Cx} {k:Nat} {f:Addr} {fd:FuncData} {ps:List Str} {sp:Sp} {dvs:List V} {ds:List Value} {x:Str} {p pos apos:Pos} {e:Expr} {es:List Expr} {t:TA}
end
section
variable {X:Cx} {K:PySem.W.Frag}
end
structure PEo (X:Cx) (e:Expr) (t:TE):Prop where
 go:PE X e t
structure PAo (X:Cx) (es:List Expr) (t:TA):Prop where
 go:PA X es t
structure PSo (X:Cx) (st:Stmt) (t:TS):Prop where
 go:PS X st t
structure PSso (X:Cx) (sts:List Stmt) (t:TS):Prop where
 go:PSs X sts t
section
variable {X:Cx} {pos:Pos} {e a b:Expr} {es:List Expr} {te ta tb:TE} {t:TA} {st:Stmt} {gL:List Stmt} {ts us:TS}
end
def tDt (K:PySem.W.Frag) (Z:List Addr) (S:St->Prop) (d:PyData):TE:=fun σ H Q=>S σ/\Fx Z H/\∀ v H',aG H H'->Den K (Vw Z H') d v->Q v H'
def tDA (K:PySem.W.Frag) (Z:List Addr) (S:St->Prop) (ds:List PyData):TA:=fun σ H Q=>S σ/\Fx Z H/\∀ vs H',aG H H'->aW K (Vw Z H') ds vs->Q vs H'
structure Dt (X:Cx) (K:PySem.W.Frag) (Z:List Addr) (S:St->Prop) (e:Expr) (d:PyData):Prop where
 go:PE X e (tDt K Z S d)
structure DA (X:Cx) (K:PySem.W.Frag) (Z:List Addr) (S:St->Prop) (es:List Expr) (ds:List PyData):Prop where
 go:PA X es (tDA K Z S ds)
section
variable {X:Cx} {K:PySem.W.Frag} {Z:List Addr} {S:St->Prop} {te:TE} {pos:Pos} {e a b:Expr} {es:List Expr} {d:PyData} {ds:List PyData}
theorem PE.imp {t t':TE} (h:PE X e t) (q:∀ σ H Q,t' σ H Q->t σ H Q):PE X e t':=fun pins s σ H Q I z=>h pins s σ H Q I (q σ H Q z)
theorem PA.imp {t t':TA} (h:PA X es t) (q:∀ σ H Q,t' σ H Q->t σ H Q):PA X es t':=fun pos pins s σ H Q I z=>h pos pins s σ H Q I (q σ H Q z)
theorem PSso.ex {sts:List Stmt} {t:TS} {R:TS->Prop} (h:PSso X sts t) (r:R t):∃ t,PSs X sts t/\R t:=⟨t,h.go,r⟩
end
section
variable {X:Cx} {tg l:Expr} {body:List Stmt} {tl:TE} {g:TG} {tb:TS} {pos:Pos}
end
section
variable {prog:Program} {w:World} {A:Around} {E:Value->Shared->Prop} {s:Shared}
end
section
variable {X:Cx}
end
section
variable {prog:Program} {w:World} {A:Around} {E:Value->Shared->Prop} {s:Shared} {e it l:Addr} {n:Nat} {P:Nat->Value->Prop} {st:Nat->Heap->Prop}
end
section
variable {X:Cx} {es:List Expr} {x1:Nat} {tpos:Pos}
end
section
variable {own:Nat} {fr:List Nat} {g:TG} {te:TE} {σ:St} {H:Hp} {Qf:Hp->List V->Prop} {K:PySem.W.Frag}
end
section
variable {X:Cx} {st:Stmt} {gL:List Stmt} {t u:TS} {e:Expr} {te:TE} {tt:TT}
end
section
variable {X:Cx} {K:PySem.W.Frag}
theorem mR (hK:X.K=K):IxR X (aCg K):=by subst hK; exact bE
end
theorem oP (xs:Array Value):slicePick xs none none (some (-1))=xs.toList.reverse.toArray:=by
 unfold slicePick
 have e1:sliceBounds none none (some (-1)) xs.size=((xs.size:Int) - 1,-1,-1):=by simp [sliceBounds]
 rw [e1,<- yG xs]
 congr 1
 show List.filterMap (fun x=>xs[x]?) (sliceRange ((xs.size:Int) - 1) (-1) (-1))=_
 have e2:sliceRange ((xs.size:Int) - 1) (-1) (-1)=(List.range xs.size).map fun (k:Nat)=>((xs.size:Int) - 1+(k:Int)*(-1)).toNat:=by
  unfold sliceRange
  rw [if_neg (by decide)]
  have e3:(if (xs.size:Int) - 1 > -1 then ((xs.size:Int) - 1 - -1 - -1 - 1) / (- -1) else 0).toNat=xs.size:=by
   by_cases h0:xs.size=0
   ·rw [h0]; decide
   ·rw [if_pos (by omega),show (- -1:Int)=1 from rfl,Int.ediv_one]; omega
  show (List.range (if (xs.size:Int) - 1 > -1 then ((xs.size:Int) - 1 - -1 - -1 - 1) / (- -1) else 0).toNat).map _=_
  rw [e3]
  refine Yw fun k _=>?_
  congr 1
  omega
 rw [e2,Ww]
 rfl
section
variable {X:Cx}
def aCl (K:PySem.W.Frag) (te ts:TE):TE:=fun σ H Q=>te σ H fun x H1=>ts σ H1 fun y H2=>y=.int (-1)/\∃ a xs,x=.ref a/\SqL K H2 a xs/\∀ p,H2 p=none->Q (.ref p) (upd H2 p (.lst xs.reverse))
theorem aAA {e st:Expr} {te ts:TE} {pos p2:Pos} (he:PE X e te) (hst:PE X st ts):PE X (.Subscript e (.Slice none none (some st) p2) pos) (aCl X.K te ts):=by
 intro pins s σ H Q I h
 refine Subscript_ (thn (he pins s σ H _ I h) fun v s1 hx9=>?_)
 obtain ⟨x,H1,I1,r1,q1⟩:=hx9
 refine wpAny_Slice ?_
 rw [evalPart_none]
 refine wpAny_pure ?_
 show wpAny _ _ (evalPart none X.env) _ _ s1
 rw [evalPart_none]
 refine wpAny_pure ?_
 show wpAny _ _ (evalPart (some st) X.env) _ _ s1
 rw [evalPart_some]
 refine thn (hst pins s1 σ H1 _ I1 q1) fun vst s3 hx9=>?_
 obtain ⟨y,H3,I3,r3,q3⟩:=hx9
 obtain ⟨rfl,a,xs,rfl,hx,q⟩:=q3
 obtain ⟨tk,rfl⟩:=r3
 cases r1
 have I4:Inv X pins σ H3 { s3 with heap:=s3.heap.push { cls:=.type "slice",data:=.fields #[.none,.none,.int (-1) tk] } }:=I3.kept (t':=s3.toks) fun b ob q=>Qc _ q
 obtain ⟨its,r,ht,hz⟩:=I4.list hx
 have hlen:=r.length
 have hg:wpAny (model X.prog X.w) X.A (getItem (.ref a) (.ref s3.heap.objs.size)) (EP X pins σ Q) X.xe { s3 with heap:=s3.heap.push { cls:=.type "slice",data:=.fields #[.none,.none,.int (-1) tk] } }:=by
  refine wpAny_getItem_list_slice ht.isList (Heap.IsSliceOf.new ..) .none .none (.int (-1) tk) (by decide) ?_ (by rw [Qp]; omega)
  rw [oP]
  refine ⟨.ref _,_,I4.laid (t':=s3.toks) (o:=.lst xs.reverse) (fun b ob q=>Qc _ q) (Qi _) ?_,rfl,q _ (I4.hok.fresh (Qi _))⟩
  exact ⟨by rw [Zf]; exact hz,its.reverse,0,r.reverse,Ql _ rfl⟩
 show wpAny (model X.prog X.w) X.A (subscriptTail e (.Slice none none (some st) p2) (.ref a) (.ref s3.heap.objs.size)) (EP X pins σ Q) X.xe { s3 with heap:=s3.heap.push { cls:=.type "slice",data:=.fields #[.none,.none,.int (-1) tk] } }
 exact tail_any (ops:=[.ref a,.ref s3.heap.objs.size]) ht.isList.typeIs slot_list_getitem.lookup hg (by with_unfolding_all rfl)
end
section
variable {K:PySem.W.Frag} {S:List Addr} {H H' H0:Hp} {E E':Hp->V->Prop} {σ:St} {te ta tb ts:TE} {t tr:TA} {tl th:TO}
instance {a:Addr} {xs:List V}:Mo (fun H v=>v=.ref a/\SqT K (Vw S H) a xs):=⟨fun e h=>⟨h.1,(Vw.same e).seqT h.2⟩⟩
end
section
variable {prog:Program} {w:World} {A:Around} {R:Result->Shared->Prop} {s:Shared} {elt tg iter tg2 iter2:Expr} {scope:Scope} {pos:Pos} {it acc:Value} {env:Env}
end
section
variable {X:Cx} {scope:Scope} {own frn:List Str} {fr:List Nat} {elt tg iter tg2 iter2:Expr} {pos:Pos} {wi wi2:TI} {g g2:TG} {te:TE}
end
section
variable {own:Nat} {fr:List Nat} {g g2:TG} {wi2:TI} {te:TE} {σ:St} {H:Hp} {Qf:Hp->List V->Prop} {K:PySem.W.Frag}
end
section
variable {X:Cx}
theorem wP (bs:List Bool) (tr:Nat->Bool) (h:∀ i b,bs[i]?=some b->tr i=b):(List.range bs.length).any tr=bs.any id:=by
 rw [Xx,Zi,Zi]
 constructor
 ·rintro ⟨i,hi,q⟩
  have hi':=Zu.mp hi
  rw [h i _ (Qb hi')] at q
  exact ⟨_,Wg hi',q⟩
 ·rintro ⟨b,hb,q⟩
  obtain ⟨i,hi⟩:=Wq hb
  exact ⟨i,Zu.mpr (Qa.mp hi).1,by rw [h i b hi]; exact q⟩
theorem sJ (hc:X.calm=true):dA X (.builtin "any") (fun xs H Q=>∃ (p:Addr) (bs:List Bool),xs = [.ref p]/\SqL X.K H p (bs.map V.bl)/\Q (.bl (bs.any id)) H):=by
 intro pins s σ H xs us Q I r h
 obtain ⟨p,bs,rfl,hx,q⟩:=h
 obtain ⟨u,rfl,rx⟩:=eK r
 cases rx
 obtain ⟨its,rv,pl,hz⟩:=I.list hx
 have hl:=rv.length
 rw [Qd] at hl
 have hlt:p < s.heap.objs.size:=by obtain ⟨o,n,e,_⟩:=pl; exact Qk e
 refine call_any_walk (wpAny_pyIter_list pl.isList ?_)
 refine ⟨s.heap.objs.size,_,_,_,_,_,fun i=>(bs[i]?).getD false,rfl,Walks.list (A:=X.A.in1) (I.ok.hd hc) s.heap.objs.size p (Jd hlt) its.toArray,⟨⟨_,Ql _ rfl,rfl,rfl⟩,pl.isList.push _⟩,?_,fun h' tk hk=>?_⟩
 ·intro i v s' Q' E' hP hQ'
  have hP':its[i]?=some v:=by simpa using hP
  have hi:i < bs.length:=by rw [hl]; exact (Qa.mp hP').1
  obtain ⟨w,hw,rw'⟩:=rv.get (i:=i) (x:=.bl bs[i]) (by rw [Qg,Qb hi]; rfl)
  rw [hw] at hP'
  cases hP'
  cases rw'
  have e:(bs[i]?).getD false=bs[i]:=by rw [Qb hi]; rfl
  rw [<- e]
  exact wpAny_truthy_bool hQ'
 ·have e:(List.range its.toArray.size).any (fun i=>(bs[i]?).getD false)=bs.any id:=by
   rw [Qp,<- hl]
   exact wP bs _ fun i b hb=>by rw [hb]; rfl
  rw [e]
  refine ⟨.bl _,H,I.kept (h':=h') fun b o e=>hk b o ?_ (Qc _ e),rfl,q⟩
  intro z
  have z':b=s.heap.objs.size:=by simpa using z
  exact Jn _ (z' ▸ Qk e)
end
section
variable {κ:Type} [DecidableEq κ]
def bJ (kvs:List (κ×V)) (k:κ):Option V:=(kvs.find? fun kv=>decide (kv.1=k)).map (·.2)
def dF (kvs:List (κ×V)) (k:κ) (v:V):List (κ×V) :=
 if (kvs.any fun kv=>decide (kv.1=k))=true then kvs.map (fun kv=>if kv.1=k then (kv.1,v) else kv) else kvs++[(k,v)]
def kX (kvs:List (κ×V)) (k:κ):List (κ×V):=kvs.filter fun kv=>decide (kv.1≠k)
theorem yJ {k:κ}:bJ ([]:List (κ×V)) k=none:=rfl
theorem bV {p:κ×V} {r:List (κ×V)} {k:κ} (e:p.1=k):bJ (p::r) k=some p.2:=by simp [bJ,Zp,e]
theorem bW {p:κ×V} {r:List (κ×V)} {k:κ} (e:¬ p.1=k):bJ (p::r) k=bJ r k:=by simp [bJ,Zp,e]
theorem dG (k:κ):∀ kvs:List (κ×V),(kvs.any fun kv=>decide (kv.1=k))=(bJ kvs k).isSome
 | []=>rfl
 | p::r=>by
  rw [Yb]
  by_cases e:p.1=k
  ·simp only [bV e,decide_eq_true e,Bool.true_or,Option.isSome_some]
  ·rw [bW e,decide_eq_false e,Bool.false_or]; exact dG k r
theorem sK (k j:κ) (y:V):∀ kvs:List (κ×V),bJ (kvs.map fun kv=>if kv.1=k then (kv.1,y) else kv) j=(bJ kvs j).map fun x=>if j=k then y else x
 | []=>rfl
 | p::r=>by
  have ih:=sK k j y r
  rw [Qu]
  by_cases h:p.1=k
  ·rw [if_pos h]
   by_cases e:p.1=j
   ·rw [bV (p:=(p.1,y)) e,bV e,Xq,if_pos (e.symm.trans h)]
   ·rw [bW (p:=(p.1,y)) e,bW e,ih]
  ·rw [if_neg h]
   by_cases e:p.1=j
   ·rw [bV (p:=p) e,bV e,Xq,if_neg (fun z=>h (e.trans z))]
   ·rw [bW (p:=p) e,bW e,ih]
theorem kI (k j:κ) (y:V):∀ kvs:List (κ×V),bJ kvs k=none->bJ (kvs++[(k,y)]) j=if j=k then some y else bJ kvs j
 | [],_=>by
  by_cases e:k=j
  ·rw [if_pos e.symm]; exact bV (p:=(k,y)) e
  ·rw [if_neg (fun z=>e z.symm)]; exact bW (p:=(k,y)) e
 | p::r,hn=>by
  rw [Yn]
  have hk:¬ p.1=k:=fun z=>by rw [bV z] at hn; cases hn
  rw [bW hk] at hn
  have ih:=kI k j y r hn
  by_cases e:p.1=j
  ·rw [bV e,bV e,if_neg (fun z=>hk (e.trans z))]
  ·rw [bW e,bW e,ih]
theorem sL (kvs:List (κ×V)) (k j:κ) (y:V):bJ (dF kvs k y) j=if j=k then some y else bJ kvs j:=by
 unfold dF
 by_cases a:(kvs.any fun kv=>decide (kv.1=k))=true
 ·rw [if_pos a,sK]
  rw [dG] at a
  by_cases e:j=k
  ·obtain ⟨x,hx⟩:=Wb.mp a
   rw [if_pos e,e,hx,Xq,if_pos rfl]
  ·rw [if_neg e]
   cases bJ kvs j with
   | none=>rfl
   | some x=>rw [Xq,if_neg e]
 ·rw [if_neg a]
  refine kI k j y kvs ?_
  rw [dG] at a
  cases q:bJ kvs k with
  | none=>rfl
  | some x=>rw [q] at a; exact (a rfl).elim
theorem eE (kvs:List (κ×V)) (k:κ) (v:V):(dF kvs k v).length<=kvs.length+1:=by
 unfold dF
 split
 ·rw [Qd]; omega
 ·rw [Qh,Qz,List.length_nil]; omega
theorem jM {kvs:List (κ×V)} {k:κ} (v:V) (h:bJ kvs k=none):dF kvs k v=kvs++[(k,v)]:=by
 unfold dF
 rw [dG,h]
 exact if_neg (by decide)
theorem fZ.isSome_eq {o:Option V} {u:Option Value} (r:fZ o u):o.isSome=u.isSome:=by
 cases o with
 | none => cases u with
   | none=>rfl
   | some _=>exact (show False from r).elim
 | some _ => cases u with
   | none=>exact (show False from r).elim
   | some _=>rfl
theorem fZ.getD {o:Option V} {u:Option Value} {d:V} {d':Value} (r:fZ o u) (rd:aQ d d'):aQ (o.getD d) (u.getD d'):=by
 cases o with
 | none => cases u with
   | none=>exact rd
   | some _=>exact (show False from r).elim
 | some _ => cases u with
   | none=>exact (show False from r).elim
   | some _=>exact r
theorem KV.val {kvs:List (κ×V)} {vs:List (κ×Value)} (r:KV kvs vs) (k:κ):fZ (bJ kvs k) (valueAt vs k):=by
 unfold KV at r
 induction r with
 | nil=>exact True.intro
 | @cons p q ps qs h t ih =>
  obtain ⟨h1,h2⟩:=h
  by_cases e:p.1=k
  ·have e':q.1=k:=h1.symm.trans e
   have b:valueAt (q::qs) k=some q.2:=by simp [valueAt,Zp,e']
   rw [bV e,b]; exact h2
  ·have e':¬ q.1=k:=fun z=>e (h1.trans z)
   have b:valueAt (q::qs) k=valueAt qs k:=by simp [valueAt,Zp,e']
   rw [bW e,b]; exact ih
theorem KV.any {kvs:List (κ×V)} {vs:List (κ×Value)} (r:KV kvs vs) (k:κ):(kvs.any fun kv=>decide (kv.1=k))=vs.any fun kv=>decide (kv.1=k):=by
 unfold KV at r
 induction r with
 | nil=>rfl
 | cons h t ih=>rw [Yb,Yb,ih,h.1]
theorem KV.repl {kvs:List (κ×V)} {vs:List (κ×Value)} (r:KV kvs vs) (k:κ) {y:V} {u:Value} (ry:aQ y u) :
  KV (kvs.map fun kv=>if kv.1=k then (kv.1,y) else kv) (vs.map fun kv=>if kv.1=k then (kv.1,u) else kv):=by
 unfold KV at r ⊢
 induction r with
 | nil=>exact .nil
 | @cons p q ps qs h t ih =>
  rw [Qu,Qu]
  refine .cons ?_ ih
  obtain ⟨h1,h2⟩:=h
  by_cases e:p.1=k
  ·rw [if_pos e,if_pos (h1.symm.trans e)]; exact ⟨h1,ry⟩
  ·rw [if_neg e,if_neg (fun z=>e (h1.trans z))]; exact ⟨h1,h2⟩
theorem KV.put {kvs:List (κ×V)} {vs:List (κ×Value)} (r:KV kvs vs) (k:κ) {y:V} {u:Value} (ry:aQ y u):KV (dF kvs k y) (stored vs k u):=by
 unfold dF stored
 rw [r.any k]
 by_cases e:(vs.any fun kv=>decide (kv.1=k))=true
 ·rw [if_pos e,if_pos e]; exact r.repl k ry
 ·rw [if_neg e,if_neg e]; exact Paired.snoc r ⟨rfl,ry⟩
theorem KV.drop {kvs:List (κ×V)} {vs:List (κ×Value)} (r:KV kvs vs) (k:κ):KV (kX kvs k) (without vs k):=by
 unfold KV at r ⊢
 unfold kX without
 induction r with
 | nil=>exact .nil
 | @cons p q ps qs h t ih =>
  obtain ⟨h1,h2⟩:=h
  rw [Yo,Yo]
  by_cases e:p.1=k
  ·have a:¬ decide (p.1≠k)=true:=by simp [e]
   have b:¬ decide (q.1≠k)=true:=by simp [h1.symm.trans e]
   rw [if_neg a,if_neg b]; exact ih
  ·have e':¬ q.1=k:=fun z=>e (h1.trans z)
   have a:decide (p.1≠k)=true:=by simp [e]
   have b:decide (q.1≠k)=true:=by simp [e']
   rw [if_pos a,if_pos b]; exact .cons ⟨h1,h2⟩ ih
theorem KV.keys {kvs:List (κ×V)} {vs:List (κ×Value)} (r:KV kvs vs):kvs.map (·.1)=vs.map (·.1):=by
 unfold KV at r
 induction r with
 | nil=>rfl
 | cons h t ih=>rw [Qu,Qu,ih,h.1]
theorem KV.length {kvs:List (κ×V)} {vs:List (κ×Value)} (r:KV kvs vs):kvs.length=vs.length:=Paired.length r
theorem yK (kvs:List (κ×V)) (k:κ):(kX kvs k).length<=kvs.length:=Wl _ _
end
theorem kY {P:Program} {w:World} {k:Key} {u:Value} (r:aQ (kV k) u):(aP P w).is k u=true:=by
 cases k with
 | inl i=>obtain ⟨t,e⟩:=(show ∃ t,u=Value.int i t from r); subst e; exact rN P w i t
 | inr x=>obtain ⟨t,e⟩:=(show ∃ t,u=Value.str x t from r); subst e; exact rO P w x t
theorem pG {P:Program} {w:World}:∀ {ks:List Key} {us:List Value},aO (ks.map kV) us->ItemsAre (aP P w) ks us
 | [],_,r=>by rw [Zy] at r; cases r; exact .nil
 | k::ks,_,r=>by
  rw [Qu] at r
  cases r with
  | cons h t=>exact .cons (kY h) (pG t)
abbrev KT (H:Hp):List (List Key×V)->List (List Key×Addr×Value)->Prop:=Paired fun p q=>p.1=q.1/\H q.2.1=some (.tup (p.1.map kV))/\aQ p.2 q.2.2
theorem KT.val {H:Hp} {kvs:List (List Key×V)} {xs:List (List Key×Addr×Value)} (r:KT H kvs xs) (k:List Key):fZ (bJ kvs k) ((atKey xs k).map (·.2)):=by
 induction r with
 | nil=>exact True.intro
 | @cons p q ps qs h t ih =>
  obtain ⟨h1,_,h2⟩:=h
  by_cases e:p.1=k
  ·have e':q.1=k:=h1.symm.trans e
   have b:atKey (q::qs) k=some q.2:=by simp [atKey,Zp,e']
   rw [bV e,b]; exact h2
  ·have e':¬ q.1=k:=fun z=>e (h1.trans z)
   have b:atKey (q::qs) k=atKey qs k:=by simp [atKey,Zp,e']
   rw [bW e,b]; exact ih
theorem KT.repl {H:Hp} {kvs:List (List Key×V)} {xs:List (List Key×Addr×Value)} (r:KT H kvs xs) (k:List Key) {y:V} {u:Value} (ry:aQ y u) :
  KT H (kvs.map fun kv=>if kv.1=k then (kv.1,y) else kv) (xs.map (putAt k u)):=by
 induction r with
 | nil=>exact .nil
 | @cons p q ps qs h t ih =>
  rw [Qu,Qu]
  refine .cons ?_ ih
  obtain ⟨h1,h2,h3⟩:=h
  unfold putAt
  by_cases e:p.1=k
  ·rw [if_pos e,if_pos (h1.symm.trans e)]; exact ⟨h1,h2,ry⟩
  ·rw [if_neg e,if_neg (fun z=>e (h1.trans z))]; exact ⟨h1,h2,h3⟩
theorem KT.put {H:Hp} {kvs:List (List Key×V)} {xs:List (List Key×Addr×Value)} (r:KT H kvs xs) (k:List Key) {b:Addr} {y:V} {u:Value} (hb:H b=some (.tup (k.map kV))) (ry:aQ y u) :
  KT H (dF kvs k y) (storedH xs k b u):=by
 have e:(kvs.any fun kv=>decide (kv.1=k))=(atKey xs k).isSome:=by
  rw [dG,(r.val k).isSome_eq,Yj]
 unfold dF storedH
 rw [e]
 by_cases q:(atKey xs k).isSome=true
 ·rw [if_pos q,if_pos q]; exact r.repl k ry
 ·rw [if_neg q,if_neg q]; exact Paired.snoc r ⟨rfl,hb,ry⟩
theorem KT.keeps {H H':Hp} {kvs:List (List Key×V)} {xs:List (List Key×Addr×Value)} (r:KT H kvs xs) (ht:∀ b ys,H b=some (.tup ys)->H' b=some (.tup ys)):KT H' kvs xs :=
 Paired.mapP r fun _ _ z=>⟨z.1,ht _ _ z.2.1,z.2.2⟩
section
variable {P:Program} {w:World} {H:Hp} {h:Heap} {a:Addr}
theorem aA7 {u:HO} (ok:HOk P w H h) (e:Rd H a u):bB P w H h a u:=e.ok ok
theorem gY {kvs:List (Key×V)} (ok:HOk P w H h) (e:Rd H a (.dK kvs)):kvs.length<=sizeLine/\(a==sysModules)=false/\∃ vs,KV kvs vs/\h.DictOf (aP P w) a vs :=
 show bB P w H h a (.dK kvs) from aA7 ok e
theorem aA8 {kvs:List (Key×V)} (ok:HOk P w H h) (e:H a=some (.dK kvs)):kvs.length<=sizeLine/\(a==sysModules)=false/\∃ vs,KV kvs vs/\h.DictOf (aP P w) a vs:=gY ok (.inl e)
theorem mS {ks:List Key} (ok:HOk P w H h) (e:H a=some (.tup (ks.map kV))):(tupleKind (aP P w)).is h ks a:=by
 obtain ⟨_,its,n,r,e1⟩:=(show bB P w H h a (.tup (ks.map kV)) from ok a _ e)
 exact ⟨_,its.toArray,n,e1,rfl,rfl,by simpa using pG r⟩
theorem pH {kvs:List (List Key×V)} (ok:HOk P w H h) (e:Rd H a (.dT kvs)):kvs.length<=sizeLine/\(a==sysModules)=false /\
  ∃ xs,KT H kvs xs/\h.DictOfH (tupleKind (aP P w)) a xs:=by
 obtain ⟨z,y,xs,r,o,es,ep,h1,h2,h3,h4,h5⟩:=(show bB P w H h a (.dT kvs) from aA7 ok e)
 refine ⟨z,y,xs,r,o,es,ep,h1,h2,h3,h4,fun x hx=>?_,h5⟩
 have all:∀ {l:List (List Key×V)} {m:List (List Key×Addr×Value)},KT H l m->∀ x∈m,(tupleKind (aP P w)).is h x.1 x.2.1:=by
  intro l m q
  induction q with
  | nil=>intro x hx; exact nomatch hx
  | @cons p q ps qs hq t ih =>
   intro x hx
   rcases Qs.mp hx with e | hx
   ·subst e
    exact mS ok (by rw [<- hq.1]; exact hq.2.1)
   ·exact ih x hx
 exact all r x hx
theorem aCm {kvs:List (List Key×V)} (ok:HOk P w H h) (e:H a=some (.dT kvs)):kvs.length<=sizeLine/\(a==sysModules)=false /\
  ∃ xs,KT H kvs xs/\h.DictOfH (tupleKind (aP P w)) a xs:=pH ok (.inl e)
end
def gN (H:Hp) (a:Addr) (y:V) (r:Option V):Prop :=
 (∃ kvs k,Rd H a (.dK kvs)/\y=kV k/\r=bJ kvs k)∨∃ kvs k b,Rd H a (.dT kvs)/\y=.ref b/\H b=some (.tup (k.map kV))/\r=bJ kvs k
def lF (H:Hp) (a:Addr) (y v:V) (H':Hp):Prop :=
 (∃ kvs k,H a=some (.dK kvs)/\y=kV k/\kvs.length < sizeLine/\H'=upd H a (.dK (dF kvs k v))) ∨
 ∃ kvs k b,H a=some (.dT kvs)/\y=.ref b/\H b=some (.tup (k.map kV))/\kvs.length < sizeLine/\H'=upd H a (.dT (dF kvs k v))
theorem gN.k {H:Hp} {a:Addr} {kvs:List (Key×V)} {k:Key} (e:H a=some (.dK kvs)):gN H a (kV k) (bJ kvs k):=.inl ⟨kvs,k,.inl e,rfl,rfl⟩
theorem gN.t {H:Hp} {a b:Addr} {kvs:List (List Key×V)} {k:List Key} (e:H a=some (.dT kvs)) (eb:H b=some (.tup (k.map kV))):gN H a (.ref b) (bJ kvs k):=.inr ⟨kvs,k,b,.inl e,rfl,eb,rfl⟩
theorem lF.k {H:Hp} {a:Addr} {kvs:List (Key×V)} {k:Key} {v:V} (e:H a=some (.dK kvs)) (hl:kvs.length < sizeLine):lF H a (kV k) v (upd H a (.dK (dF kvs k v))):=.inl ⟨kvs,k,e,rfl,hl,rfl⟩
theorem lF.t {H:Hp} {a b:Addr} {kvs:List (List Key×V)} {k:List Key} {v:V} (e:H a=some (.dT kvs)) (eb:H b=some (.tup (k.map kV))) (hl:kvs.length < sizeLine) :
  lF H a (.ref b) v (upd H a (.dT (dF kvs k v))):=.inr ⟨kvs,k,b,e,rfl,eb,hl,rfl⟩
section
variable {X:Cx} {pins:List (Addr×Obj)} {σ:St} {H:Hp} {s:Shared} {a:Addr} {y v:V} {u r:Value} {o:Option V} {A:Around} {E:Value->Shared->Prop}
theorem Inv.big (I:Inv X pins σ H s):sysModules < s.heap.objs.size:=by
 have h:mainGlobals < s.heap.objs.size:=(I.mod.glob.keeps I.bk).lt
 exact Wm (by decide) h
theorem wQ {Q:Value->Shared->Prop} (hu:A.units+1 < cLine) (I:Inv X pins σ H s) (g:gN H a y (some v)) (ry:aQ y u) (h:∀ w' s',Inv X pins σ H s'->aQ v w'->Q w' s') :
  wpAny (model X.prog X.w) A (getItem (.ref a) u) Q E s:=by
 rcases g with ⟨kvs,k,e,ey,l⟩ | ⟨kvs,k,b,e,ey,eb,l⟩
 ·subst ey
  obtain ⟨z,hd,vs,rel,dd⟩:=gY I.hok e
  obtain ⟨w',hw,rw'⟩:=fZ.some_of (v:=v) (o:=valueAt vs k) (by rw [l]; exact rel.val k)
  exact wpAny_getItem_of (kY ry) dd.mapOf hw (h w' _ (I.tok _) rw')
 ·subst ey
  cases (show u=Value.ref b from ry)
  obtain ⟨z,hd,xs,rel,dd⟩:=pH I.hok e
  obtain ⟨w',hw,rw'⟩:=fZ.some_of (v:=v) (o:=(atKey xs k).map (·.2)) (by rw [l]; exact rel.val k)
  obtain ⟨p,hp,hp2⟩:=Jr.mp hw
  refine wpAny_getItem_heap (tupleKind_room_in1 hu) (mS I.hok eb) dd hp ?_
  rw [hp2]
  exact h w' _ (I.tok _) rw'
theorem aC1 {Q:Value->Shared->Prop} (hu:A.units+1 < cLine) (I:Inv X pins σ H s) (g:gN H a y o) (ry:aQ y u) (h:∀ s',Inv X pins σ H s'->Q (.bool o.isSome) s') :
  wpAny (model X.prog X.w) A (compareOp .In u (.ref a)) Q E s:=by
 rcases g with ⟨kvs,k,e,ey,l⟩ | ⟨kvs,k,b,e,ey,eb,l⟩
 ·subst ey
  obtain ⟨z,hd,vs,rel,dd⟩:=gY I.hok e
  refine wpAny_in_of (kY ry) hd dd.mapOf ?_
  rw [<- (rel.val k).isSome_eq,<- l]
  exact h _ (I.tok _)
 ·subst ey
  cases (show u=Value.ref b from ry)
  obtain ⟨z,hd,xs,rel,dd⟩:=pH I.hok e
  refine wpAny_in_heap (tupleKind_room_in1 hu) (mS I.hok eb) hd dd ?_
  have q:=(rel.val k).isSome_eq
  rw [Yj] at q
  rw [<- q,<- l]
  exact h _ (I.tok _)
theorem aAB {Q:Value->Shared->Prop} (hu:A.units+1 < cLine) (I:Inv X pins σ H s) (g:gN H a y o) (ry:aQ y u) (h:∀ s',Inv X pins σ H s'->Q (.bool (!o.isSome)) s') :
  wpAny (model X.prog X.w) A (compareOp .NotIn u (.ref a)) Q E s:=by
 rcases g with ⟨kvs,k,e,ey,l⟩ | ⟨kvs,k,b,e,ey,eb,l⟩
 ·subst ey
  obtain ⟨z,hd,vs,rel,dd⟩:=gY I.hok e
  refine wpAny_notIn_of (kY ry) hd dd.mapOf ?_
  rw [<- (rel.val k).isSome_eq,<- l]
  exact h _ (I.tok _)
 ·subst ey
  cases (show u=Value.ref b from ry)
  obtain ⟨z,hd,xs,rel,dd⟩:=pH I.hok e
  refine wpAny_notIn_heap (tupleKind_room_in1 hu) (mS I.hok eb) hd dd ?_
  have q:=(rel.val k).isSome_eq
  rw [Yj] at q
  rw [<- q,<- l]
  exact h _ (I.tok _)
theorem lK {h':Heap} {t':Nat} {ob:HO} (I:Inv X pins σ H s) (mu:Mut (H a)) (hs:Heap.SameBut a s.heap h') (he:∃ q,h'.get? a=some q) (new:bB X.prog X.w (upd H a ob) h' a ob) :
  Inv X pins σ (upd H a ob) { s with heap:=h',toks:=t' } :=
 I.write (x:=a) (e:=a) mu (.inl rfl) (fun b q hb z=>(hs.2 b hb).trans z) he new
theorem qM {P:Program} {w:World} {H':Hp} {h':Heap} {kvs:List (Key×V)} {vs:List (Key×Value)} (z:kvs.length<=sizeLine) (hd:(a==sysModules)=false) (rel:KV kvs vs) (dd:h'.DictOf (aP P w) a vs) :
  bB P w H' h' a (.dK kvs):=⟨z,hd,vs,rel,dd⟩
theorem wR {H':Hp} {Q:Unit->Shared->Prop} (hu:A.units+1 < cLine) (I:Inv X pins σ H s) (g:lF H a y v H') (ry:aQ y u) (rv:aQ v r) (h:∀ s',Inv X pins σ H' s'->Q () s') :
  wpAny (model X.prog X.w) A (setItem (.ref a) u r) Q E s:=by
 rcases g with ⟨kvs,k,e,ey,l,eH⟩ | ⟨kvs,k,b,e,ey,eb,l,eH⟩
 ·subst ey eH
  obtain ⟨z,hd,vs,rel,dd⟩:=aA8 I.hok e
  have hz:vs.length<=sizeLine:=by rw [<- rel.length]; exact z
  have hl:(dF kvs k v).length<=sizeLine:=by have:=eE kvs k v; omega
  refine wpAny_setItem_pairs (hsz:=hz) (kY ry) dd fun h' dd' hs=>h _ ?_
  have he:∃ q,h'.get? a=some q:=let ⟨q,_,_,hq,_⟩:=dd'; ⟨q,hq⟩
  exact lK I (by rw [e]; exact True.intro) hs he (qM hl hd (rel.put k rv) dd')
 ·subst ey eH
  cases (show u=Value.ref b from ry)
  obtain ⟨z,hd,xs,rel,dd⟩:=aCm I.hok e
  have hz:xs.length<=sizeLine:=by rw [<- Paired.length rel]; exact z
  have hl:(dF kvs k v).length<=sizeLine:=by have:=eE kvs k v; omega
  refine wpAny_setItem_heap (hsz:=hz) (tupleKind_room_in1 hu) (mS I.hok eb) dd fun h' dd' hs=>h _ ?_
  obtain ⟨q,es,ep,hq,h2,h3,h4,_,h5⟩:=dd'
  refine lK I (by rw [e]; exact True.intro) hs ⟨q,hq⟩ ⟨hl,hd,_,(rel.put k eb rv).keeps fun c ys ec=>?_,q,es,ep,hq,h2,h3,h4,h5⟩
  rw [aD (aBY ec e (fun z=>nomatch z))]
  exact ec
end
section
variable {X:Cx} {pins:List (Addr×Obj)} {σ:St} {H:Hp} {s:Shared} {a:Addr} {kvs:List (Key×V)} {k:Key} {u:Value} {A:Around} {E:Value->Shared->Prop}
theorem aCn {v:V} {more:List Value} {Q:Value->Shared->Prop} (I:Inv X pins σ H s) (e:H a=some (.dK kvs)) (ry:aQ (kV k) u) (l:bJ kvs k=some v) (hm:more = []∨∃ x,more = [x])
  (h:∀ w' s',Inv X pins σ (upd H a (.dK (kX kvs k))) s'->aQ v w'->Q w' s'):wpAny (model X.prog X.w) A (call (.builtin "dict.pop") (.ref a::u::more)) Q E s:=by
 obtain ⟨z,hd,vs,rel,dd⟩:=aA8 I.hok e
 obtain ⟨w',hw,rw'⟩:=fZ.some_of (v:=v) (o:=valueAt vs k) (by rw [<- l]; exact rel.val k)
 have hp:(keyPart u).isSome=true:=by
  cases k with
  | inl i=>obtain ⟨t,q⟩:=(show ∃ t,u=Value.int i t from ry); subst q; rfl
  | inr x=>obtain ⟨t,q⟩:=(show ∃ t,u=Value.str x t from ry); subst q; rfl
 have ha:argsOk "dict.pop" ⟨.ref a::u::more,[]⟩:=by
  rcases hm with q | ⟨x,q⟩
  ·subst q; exact PySem.F.args_dict_pop_2 _ _
  ·subst q; exact PySem.F.args_dict_pop_3 _ _ _
 refine call_meetsIn PySem.F.slot_dict_pop dd.typeIs PySem.F.entry_dict_pop ha (meets_dict_pop_there (aP X.prog X.w) a (kY ry) more hm hp)
  ⟨vs,w',dd,by rw [<- rel.length]; exact z,hw,fun h' dd' hs=>h w' _ ?_ rw'⟩
 have he:∃ q,h'.get? a=some q:=let ⟨q,_,_,hq,_⟩:=dd'; ⟨q,hq⟩
 exact lK I (by rw [e]; exact True.intro) hs he (qM (Ja (yK kvs k) z) hd (rel.drop k) dd')
theorem aCo {Q:Value->Shared->Prop} (I:Inv X pins σ H s) (e:Rd H a (.dK kvs)) (h:∀ t s',Inv X pins σ H s'->Q (.int kvs.length t) s'):wpAny (model X.prog X.w) A (call (.builtin "len") [.ref a]) Q E s:=by
 obtain ⟨z,hd,vs,rel,dd⟩:=gY I.hok e
 refine call_len_dict hd dd (by rw [<- rel.length]; rw [sizeLine_eq] at z; omega) ?_
 rw [<- rel.length]
 exact h _ _ (I.tok _)
end
def aCp (i:Expr):Prop:=∀ ov iv,subscripted i false ov iv=operate [ov,iv] (getItem ov iv)
theorem aAC {prog:Program} {w:World} {A:Around} {E:Value->Shared->Prop} {s:Shared} {env:Env} {value slice:Expr} {pos:Pos} {T id:String} {Q:Value->Shared->Prop}
  (hl:typeLookup (.type T) "__getitem__" = pure (some (.builtin id))) (hs:aCp slice)
  (h:wpAny (model prog w) A (eval value env) (fun o s₁=>wpAny (model prog w) A (eval slice env) (fun i s₂=>s₂.TypeIs o T/\wpAny (model prog w) A (getItem o i) Q E s₂) E s₁) E s) :
  wpAny (model prog w) A (eval (.Subscript value slice pos) env) Q E s:=by
 refine Subscript_ (wpAny_mono h (fun o s₁ h₁=>wpAny_mono h₁ (fun i s₂ h₂=>?_) fun _ _ x=>x) fun _ _ x=>x)
 obtain ⟨hT,h₂⟩:=h₂
 unfold subscriptTail
 refine wpAny_bind ?_
 rw [getitemInPython_of_ne hT.not_modules]
 refine wpAny_bind (wpAny_specialOf hT hl ?_)
 have fin:wpAny (model prog w) A (subscripted slice false o i) (fun r s₃=>wpAny (model prog w) A (letTemporaryGo value o r >>= fun _=>pure r) Q E s₃) E s₂:=by
  rw [hs o i]
  exact wpAny_operating (wpAny_mono h₂ (fun r s₃ h₃=>wpAny_bind (wpAny_letTemporaryGo (wpAny_pure h₃))) fun _ _ x=>x)
 first
  | exact wpAny_pure (wpAny_bind fin)
  | exact wpAny_bind (wpAny_pure (wpAny_bind fin))
  | exact wpAny_bind fin
theorem sM {X:Cx} {pins:List (Addr×Obj)} {σ:St} {H:Hp} {s:Shared} {a:Addr} {y:V} {o:Option V} (I:Inv X pins σ H s) (g:gN H a y o):s.TypeIs (.ref a) "dict" := by
 rcases g with ⟨kvs,k,e,_,_⟩ | ⟨kvs,k,b,e,_,_,_⟩
 ·obtain ⟨_,_,vs,_,dd⟩:=gY I.hok e
  exact dd.typeIs
 ·obtain ⟨_,_,xs,_,dd⟩:=pH I.hok e
  exact dd.typeIs
def aCq (td ty:TE):TE:=fun σ H Q=>td σ H fun x H1=>ty σ H1 fun y H2=>∃ a v,x=.ref a/\gN H2 a y (some v)/\Q v H2
def aC2 (ty td:TE):TE:=fun σ H Q=>ty σ H fun y H1=>td σ H1 fun x H2=>∃ a o,x=.ref a/\gN H2 a y o/\Q (.bl o.isSome) H2
def aAD (ty td:TE):TE:=fun σ H Q=>ty σ H fun y H1=>td σ H1 fun x H2=>∃ a o,x=.ref a/\gN H2 a y o/\Q (.bl (!o.isSome)) H2
def aA9 (td ty tv:TE):TS:=fun D σ H=>tv σ H fun v H1=>td σ H1 fun x H2=>ty σ H2 fun y H3=>∃ a H4,x=.ref a/\lF H3 a y v H4/\D.nx σ H4
section
variable {X:Cx} {o i e value:Expr} {pos pos' tpos:Pos} {td ty tv:TE}
theorem cI (hu:X.A.units+1 < cLine) (ho:PE X o td) (hi:PE X i ty) (hs:aCp i):PE X (.Subscript o i pos) (aCq td ty):=by
 intro pins s σ H Q I h
 refine aAC PySem.F.slot_dict_getitem.lookup hs (thn (ho pins s σ H _ I h) fun u s1 ⟨x,H1,I1,rx,q1⟩=>thn (hi pins s1 σ H1 _ I1 q1) fun iv s2 hx9=>?_)
 obtain ⟨y,H2,I2,ry,a,v,ex,g,q2⟩:=hx9
 subst ex
 obtain rfl:u=Value.ref a:=rx
 exact ⟨sM I2 g,wQ hu I2 g ry fun w' s3 I3 rw'=>⟨v,H2,I3,rw',q2⟩⟩
theorem aBB (hu:X.A.units+1 < cLine) (hi:PE X i ty) (ho:PE X o td):PC X .In i o (aC2 ty td):=by
 intro pins s σ H Q I h
 refine thn (hi pins s σ H _ I h) fun iv s1 ⟨y,H1,I1,ry,q1⟩=>thn (ho pins s1 σ H1 _ I1 q1) fun u s2 hx9=>?_
 obtain ⟨x,H2,I2,rx,a,ov,ex,g,q2⟩:=hx9
 subst ex
 obtain rfl:u=Value.ref a:=rx
 exact aC1 hu I2 g ry fun s3 I3=>⟨.bl ov.isSome,H2,I3,rfl,q2⟩
theorem pI (hu:X.A.units+1 < cLine) (hi:PE X i ty) (ho:PE X o td):PC X .NotIn i o (aAD ty td):=by
 intro pins s σ H Q I h
 refine thn (hi pins s σ H _ I h) fun iv s1 ⟨y,H1,I1,ry,q1⟩=>thn (ho pins s1 σ H1 _ I1 q1) fun u s2 hx9=>?_
 obtain ⟨x,H2,I2,rx,a,ov,ex,g,q2⟩:=hx9
 subst ex
 obtain rfl:u=Value.ref a:=rx
 exact aAB hu I2 g ry fun s3 I3=>⟨.bl (!ov.isSome),H2,I3,rfl,q2⟩
theorem gE (hu:X.A.units+1 < cLine) (ho:PE X o td) (hi:PE X i ty) (hv:PE X value tv) (hs:swapsWith value (some (.Subscript o i pos')) pos.line X.env=pure false) :
  PS X (.Assign [.Subscript o i pos'] value pos) (aA9 td ty tv):=by
 intro pins s σ H D I h
 refine wpAny_Assign_Subscript (thn (hv pins s σ H _ I h) fun r s1 ⟨v,H1,I1,rv,q1⟩=>thn (ho pins s1 σ H1 _ I1 q1) fun u s2 ⟨x,H2,I2,rx,q2⟩=>thn (hi pins s2 σ H2 _ I2 q2) fun iv s3 hx9=>?_) hs
 obtain ⟨y,H3,I3,ry,a,H4,ex,g,q3⟩:=hx9
 subst ex
 obtain rfl:u=Value.ref a:=rx
 exact wR hu I3 g ry rv fun s4 I4=>⟨σ,H4,I4,q3⟩
end
theorem sN {P:Program} {w:World} {H:Hp} (h:Heap) (hb:sysModules < h.objs.size):bB P w H (h.push { cls:=.type "dict",data:=.dict #[] }) h.objs.size (.dK []) :=
 ⟨Jz _,beq_eq_false_iff_ne.mpr (Ne.symm (Jd hb)),[],.nil,Heap.DictOf.new h⟩
def aBC:TE:=fun _ H Q=>∀ p,H p=none->Q (.ref p) (upd H p (.dK []))
section
variable {X:Cx} {pos:Pos}
theorem gZ:PE X (.Dict [] [] pos) aBC:=fun pins s σ H Q I h =>
 wpAny_Dict_empty ⟨.ref s.heap.objs.size,_,I.laid (a:=s.heap.objs.size) (o:=.dK []) (t':=s.toks) (fun _ _ q=>Qc _ q) (Qi _) (sN s.heap I.big),rfl,h _ (I.hok.fresh (Qi _))⟩
end
def NF (H0:Hp) (a:Addr):Prop:=∀ o u,H0 a≠some (.frz o u)
section
variable {X:Cx} {pins:List (Addr×Obj)} {σ:St} {H:Hp} {s:Shared} {a:Addr}
theorem Inv.freeze {kvs:List (Key×V)} {o:Obj} (I:Inv X pins σ H s) (e:H a=some (.dK kvs)) (ho:s.heap.get? a=some o):Inv X pins σ (upd H a (.frz o (.dK kvs))) s:=by
 have m:Mut (H a):=by rw [e]; trivial
 have q:bB X.prog X.w H s.heap a (.dK kvs):=I.hok a _ e
 exact I.write (x:=a) (e:=a) (t':=s.toks) m (.inl rfl) (fun b u _ z=>z) ⟨o,ho⟩ ⟨ho,q⟩
theorem Inv.nf {kvs:List (Key×V)} (I:Inv X pins σ H s) (e:H a=some (.dK kvs)):NF X.H₀ a:=fun o u z=>by
 have:=I.base.frzs a o u z
 rw [e] at this; cases this
theorem Inv.thaw {kvs:List (Key×V)} {o:Obj} (I:Inv X pins σ H s) (e:H a=some (.frz o (.dK kvs))) (nf:NF X.H₀ a):Inv X pins σ (upd H a (.dK kvs)) s:=by
 have ne:∀ b,H b=none->b≠a:=fun b n z=>by rw [z,e] at n; cases n
 have nt:∀ b xs,H b=some (.tup xs)->b≠a:=fun b xs n z=>by rw [z,e] at n; cases n
 have no:∀ b x,H b=some (.own x)->b≠a:=fun b xs n z=>by rw [z,e] at n; cases n
 obtain ⟨ho,q⟩:s.heap.get? a=some o/\bB X.prog X.w H s.heap a (.dK kvs):=I.hok a _ e
 have un:Un X.fs X.ex X.H₀ (upd H a (.dK kvs)) X.s₀.heap s.heap:=by
  refine ⟨I.base.keep,I.base.slot,fun b ob q n hx=>?_,I.base.there,fun b xs q=>?_,fun b ob u q=>?_,fun b ps q=>?_⟩
  ·have z:=I.base.free b ob q n hx
   rw [aD (ne b z)]; exact z
  ·have z:=I.base.tups b xs q
   rw [aD (nt b xs z)]; exact z
  ·have z:=I.base.frzs b ob u q
   have n:b≠a:=fun y=>nf ob u (y ▸ q)
   rw [aD n]; exact z
  ·obtain ⟨m,z⟩:=I.base.tbls b ps q
   have n:b≠a:=fun y=>by rw [y,e] at z; cases z
   exact ⟨m,by rw [aD n]; exact z⟩
 refine ⟨I.ok,I.os,I.bare,un,I.loc,I.cell,?_,fun x c h=>?_,fun p hp=>?_,fun b u h=>?_,I.len⟩
 ·rw [aD (ne _ I.free)]; exact I.free
 ·have z:=I.freeC x c h
  rw [aD (ne _ z)]; exact z
 ·obtain ⟨p1,p2,p3⟩:=I.pin p hp
  exact ⟨p1,by rw [aD (ne _ p2)]; exact p2,p3⟩
 ·by_cases hb:b=a
  ·subst hb
   rw [aA] at h
   cases h
   exact bB.stay q (fun _ _ _ z=>z) (fun c z=>by rw [aD (no c _ z)]; exact z) (fun c xs z=>by rw [aD (nt c xs z)]; exact z)
  ·rw [aD hb] at h
   exact bB.stay (I.hok b u h) (fun _ _ _ z=>z) (fun c z=>by rw [aD (no c _ z)]; exact z) (fun c xs z=>by rw [aD (nt c xs z)]; exact z)
end
def Itd (a:Addr) (o:Obj) (kvs:List (Key×V)):It :=
 ⟨fun i H=>H a=some (.frz o (.dK kvs))/\i < kvs.length,fun i H x H'=>H'=H/\∃ p,kvs[i]?=some p/\x=kV p.1,fun i H=>H a=some (.frz o (.dK kvs))/\i=kvs.length⟩
theorem mT {P:Program} {w:World} {k:Key} {u:Value} (h:(aP P w).is k u=true):aQ (kV k) u:=by
 rcases bS h with ⟨i,t,rfl,rfl⟩ | ⟨x,t,rfl,rfl⟩
 ·exact ⟨t,rfl⟩
 ·exact ⟨t,rfl⟩
theorem kJ {P:Program} {w:World} {h:Heap} {a:Addr} {o:Obj} {es:Array DictEntry} {ep:Nat} {vs:List (Key×Value)} (ho:h.get? a=some o) (hd:o.data=.dict es ep) (d:h.DictOf (aP P w) a vs):h.DictAt (aP P w) a vs ep:=by
 obtain ⟨o',es',ep',q1,q2,q3,r⟩:=d
 rw [ho] at q1; cases q1
 rw [hd] at q3; cases q3
 exact ⟨o,es,ho,q2,hd,r⟩
theorem wS {P:Program} {w:World} {K:PySem.W.Frag} {tg:Expr} (a it:Addr) (o:Obj) (es:Array DictEntry) (ep:Nat) (hd:o.data=.dict es ep) (kvs:List (Key×V)) :
  Turn P w K tg (Itd a o kvs) [it] it (fun i h=>h.IsKeyIter it a i kvs.length ep) where
 mem:=by simp
 obj:=fun i h st b hb=>by
  have e:b=it:=by simpa using hb
  subst e
  obtain ⟨o,e,c,d⟩:=st
  exact ⟨o,e,fun v z=>by rw [d] at z; cases z⟩
 keep:=fun i h h' st k=>st.at fun o e=>k it (by simp) o e
 item:=by
  intro X hP hw hK hc i pins s σ H E I hf st hg
  subst hP hw hK
  obtain ⟨hA,hi⟩:=hg
  obtain ⟨ho,hz,hs,vs,kv,dd⟩:s.heap.get? a=some o/\bB X.prog X.w H s.heap a (.dK kvs):=I.hok a _ hA
  have da:=kJ ho hd dd
  have hl:kvs.length=vs.length:=kv.length
  obtain ⟨f0,f1,f2,f3,f4,f5⟩:=hf it (by simp)
  obtain ⟨⟨k,x⟩,hx⟩:∃ p,vs[i]?=some p:=⟨vs[i]'(by omega),by simp⟩
  rw [hl] at st
  refine wpAny_pyNext_dict_item st da hx fun key h' hkey st' sb=>?_
  have I1:Inv X pins σ H { s with heap:=h' }:=I.turned (t':=s.toks) (fun b o hb e=>(sb.2 b hb).trans e) f0 f1 f3 f4 f5
  obtain ⟨o',e',c',d'⟩:=id st'
  have hk:kvs[i]?=some (kvs[i]):=Qb hi
  have hkk:(kvs[i]).1=k:=by
   have e:=kv.keys
   have e1:(kvs.map (·.1))[i]?=some (kvs[i]).1:=by rw [Qg,hk]; rfl
   have e2:(vs.map (·.1))[i]?=some k:=by rw [Qg,hx]; rfl
   rw [e,e2] at e1
   exact (Option.some.inj e1).symm
  rw [<- hl] at st'
  exact ⟨key,rfl,uU (s:={ s with heap:=h' }) e' c' d' (by decide) ⟨kV k,H,I1,mT hkey,⟨rfl,_,hk,by rw [hkk]⟩,st',fun b hb=>(hf b hb).1⟩⟩
 done:=by
  intro X hP hw hK hc i pins s σ H E I hf st hg
  subst hP hw hK
  obtain ⟨hA,hi⟩:=hg
  obtain ⟨ho,hz,hs,vs,kv,dd⟩:s.heap.get? a=some o/\bB X.prog X.w H s.heap a (.dK kvs):=I.hok a _ hA
  have da:=kJ ho hd dd
  have hl:kvs.length=vs.length:=kv.length
  obtain ⟨f0,f1,f2,f3,f4,f5⟩:=hf it (by simp)
  rw [hl] at st
  exact wpAny_pyNext_dict_end (I.ok.hd hc) st da (by simp; omega) fun h' eb=>⟨rfl,I.turned (t':=s.toks) (fun b o hb e=>eb b o hb e) f0 f1 f3 f4 f5⟩
 self:=fun _ _ _ _ _ st h=>wpAny_pyIter_keyiter st h
section
variable {X:Cx} {tg:Expr}
def aCr (H0:Hp) (td:TE):TI:=fun σ H R=>td σ H fun x H1=>∃ a kvs,x=.ref a/\H1 a=some (.dK kvs)/\∀ o,NF H0 a->R (Itd a o kvs) (upd H1 a (.frz o (.dK kvs)))
theorem vE {d:Expr} {td:TE} (hl:PE X d td):PI X tg d (aCr X.H₀ td):=by
 intro pins s σ H R I h
 refine thn (hl pins s σ H _ I h) fun v s1 hx9=>?_
 obtain ⟨x,H1,I1,r1,q1⟩:=hx9
 obtain ⟨a,kvs,e,hq,q⟩:=q1
 subst e
 cases r1
 obtain ⟨hz,hs,vs,kv,dd⟩:bB X.prog X.w H1 s1.heap a (.dK kvs):=I1.hok a _ hq
 obtain ⟨o,es,ep,ho,oe,hd,r⟩:=id dd
 have da:=kJ ho hd dd
 refine wpAny_pyIter_dict hs da ?_
 have I2:=(I1.freeze hq ho).kept (h':=s1.heap.push { cls:=.type "dict_keyiterator",data:=.fields #[.ref a,.int 0 0,.int vs.length 0,.int ep 0] }) (t':=s1.toks) fun b o e=>Qc _ e
 have nA:a≠s1.heap.objs.size:=Jd (Qk ho)
 refine ⟨s1.heap.objs.size,[s1.heap.objs.size],_,_,_,rfl,I2,wS a _ o es ep hd kvs,?_,fun b hb=>?_,q o (I1.nf hq)⟩
 ·refine ⟨_,Ql _ rfl,rfl,?_⟩
  rw [kv.length]; rfl
 ·have e:b=s1.heap.objs.size:=by simpa using hb
  subst e
  exact I1.fpOk (Qi _) (by rw [aD (Ne.symm nA)]; exact I1.hok.fresh (Qi _))
def aCs (H0:Hp) (t:TS):TS:=fun D σ H=>t { D with nx:=fun σ' H'=>∃ a o kvs,H' a=some (.frz o (.dK kvs))/\NF H0 a/\D.nx σ' (upd H' a (.dK kvs)) } σ H
theorem aAE {st:Stmt} {t:TS} (h:PS X st t):PS X st (aCs X.H₀ t):=by
 intro pins s σ H D I q
 refine thn (h pins s σ H _ I q) fun f s1 z=>?_
 cases f with
 | next =>
  obtain ⟨σ',H',I',a,o,kvs,e,nf,k⟩:=z
  exact ⟨σ',_,I'.thaw e nf,k⟩
 | brk=>exact z
 | cont=>exact z
 | ret u=>exact z
end
theorem yL {a:Addr} {o:Obj} {kvs:List (Key×V)} {g:TG} {tb:TS} {D:Ends} {σ:St} {H:Hp} (Pv:Nat->St->Hp->Prop) (h0:Pv 0 σ H) (hl:∀ i σ H,i<=kvs.length->Pv i σ H->H a=some (.frz o (.dK kvs)))
  (hs:∀ i p σ H,kvs[i]?=some p->Pv i σ H->g (kV p.1) σ H fun σ2 H2=>tb { D with nx:=Pv (i+1),ct:=Pv (i+1),bk:=D.nx } σ2 H2) (hd:∀ σ H,Pv kvs.length σ H->D.nx σ H) :
  ∃ W:Nat->Nat->St->Hp->Prop,(∃ m,W 0 m σ H)/\∀ i m σ H,W i m σ H ->
   ((Itd a o kvs).stop i H/\D.nx σ H)∨((Itd a o kvs).go i H/\∃ N:St->Hp->Prop,(∀ σ' H',N σ' H'->∃ m',m' < m/\W (i+1) m' σ' H')/\∀ x H',(Itd a o kvs).yld i H x H'->g x σ H' fun σ2 H2=>tb { D with nx:=N,ct:=N,bk:=D.nx } σ2 H2):=by
 refine ⟨fun i m σ H=>m=kvs.length - i/\i<=kvs.length/\Pv i σ H,⟨kvs.length,by simp,Jz _,h0⟩,?_⟩
 rintro i m σ H ⟨rfl,hi,p⟩
 have q:=hl i σ H hi p
 by_cases hlt:i < kvs.length
 ·refine .inr ⟨⟨q,hlt⟩,Pv (i+1),fun σ' H' p'=>⟨kvs.length - (i+1),by omega,rfl,hlt,p'⟩,fun x H' y=>?_⟩
  obtain ⟨rfl,v,hv,rfl⟩:=y
  exact hs i v σ H' hv p
 ·have e:i=kvs.length:=by omega
  subst e
  exact .inl ⟨⟨q,rfl⟩,hd σ H p⟩
def aBD (tk tv:TE):TE:=fun σ H Q=>∀ p,H p=none->tk σ (upd H p (.dK [])) fun x H1=>tv σ H1 fun y H2=>∃ k,x=kV k/\H2 p=some (.dK [])/\Q (.ref p) (upd H2 p (.dK [(k,y)]))
section
variable {X:Cx} {pos:Pos} {ek ev:Expr} {tk tv:TE}
theorem yM (hk:PE X ek tk) (hv:PE X ev tv) (he:evalEachOpt [some ek] X.env = [some (eval ek X.env)]:=by rfl) (he2:evalEach [ev] X.env = [eval ev X.env]:=by rfl):PE X (.Dict [some ek] [ev] pos) (aBD tk tv):=by
 intro pins s σ H Q I h
 have I0:Inv X pins σ (upd H s.heap.objs.size (.dK [])) { s with heap:=s.heap.push { cls:=.type "dict",data:=.dict #[] } }:=I.laid (a:=s.heap.objs.size) (o:=.dK []) (t':=s.toks) (fun _ _ q=>Qc _ q) (Qi _) (sN s.heap I.big)
 have h0:=h s.heap.objs.size (I.hok.fresh (Qi _))
 refine wpAny_Dict_pairs (knd:=aP X.prog X.w) (pairs:=[(eval ek X.env,do let x<-eval ev X.env; standAt pos; pure x)]) (by rw [he,he2]; rfl) (by simp) (by simp) ?_
 refine evalPairs_cons (thn (hk pins _ σ _ _ I0 h0) fun kv s1 hx9=>?_)
 obtain ⟨x,H1,I1,r1,q1⟩:=hx9
 refine wpAny_bind (thn (hv pins _ σ _ _ I1 q1) fun vv s2 hx9=>?_)
 obtain ⟨y,H2,I2,r2,q2⟩:=hx9
 refine wpAny_bind (wpAny_standAt (wpAny_pure (evalPairs_nil ?_)))
 obtain ⟨k,rfl,hp,q⟩:=q2
 obtain ⟨hz,hs,vs,kv',dd⟩:bB X.prog X.w H2 s2.heap s.heap.objs.size (.dK []):=I2.hok _ _ hp
 have ev0:vs = []:=by
  have:=kv'.length
  exact Zg.mp this.symm
 subst ev0
 refine ⟨[(k,vv)],⟨kY r1,rfl,trivial⟩,dd,fun h' dd' sb=>?_⟩
 have em:merged ([]:List (Key×Value)) [(k,vv)] = [(k,vv)]:=by simp [merged,stored]
 rw [em] at dd'
 obtain ⟨o',es',ep',ho',_⟩:=id dd'
 have mu:Mut (H2 s.heap.objs.size):=by rw [hp]; trivial
 refine ⟨.ref s.heap.objs.size,_,lK (t':=s2.toks+1) I2 mu sb ⟨_,ho'⟩ (qM (kvs:=[(k,y)]) (by simp [sizeLine_eq]) hs (.cons ⟨rfl,r2⟩ .nil) dd'),rfl,q⟩
end
section
variable {prog:Program} {w:World} {A:Around} {E:Value->Shared->Prop} {s:Shared}
def fN (h:Heap) (u:Value) (i:Int) (v:Value):Prop:=∃ p,u=.ref p/\((∃ its:Array Value,h.IsTuple p its/\0<=i/\i < 1000/\its[i.toNat]?=some v)∨∃ its:Array Value,h.IsList p its/\0<=i/\i < 1000/\its[i.toNat]?=some v)
theorem fN.keeps {h h':Heap} {u:Value} {i:Int} {v:Value} (x:fN h u i v) (k:∀ b o,h.get? b=some o->h'.get? b=some o):fN h' u i v:=by
 obtain ⟨p,rfl,⟨its,⟨o,ho,r⟩,q⟩ | ⟨its,⟨o,ho,r⟩,q⟩⟩:=x
 ·exact ⟨p,rfl,.inl ⟨its,⟨o,k _ _ ho,r⟩,q⟩⟩
 ·exact ⟨p,rfl,.inr ⟨its,⟨o,k _ _ ho,r⟩,q⟩⟩
theorem jN {i:Int} {n:Nat} (h0:0<=i) (h1:i.toNat < n):seqIndex? i n=some i.toNat:=by
 unfold seqIndex?
 have e:¬ (i < 0):=by omega
 simp only [e,if_false]
 have e2:(decide (0<=i) && decide (i < (n:Int)))=true:=by simp; omega
 rw [if_pos e2]
theorem aAF {env:Env} {vn xn:Str} {p1 p2 p3:Pos} {m:Str->Option Value} {c:Addr} {u v:Value} {i:Int} {t:Tok} {Q:Value->Shared->Prop} (hk:env.scope.kind=.function) (hv:env.kindOf vn=some .free) (hx:env.kindOf xn=some .local)
  (hc:env.cells.lookup vn=some c) (hC:s.heap.IsCell c (some u)) (hn:s.heap.Ns env.locals m) (hm:m xn=some (.int i t)) (hI:fN s.heap u i v) (h:Q v s)
  (d1:(vn==("__debug__" : Str))=false) (d2:(vn==("__classdict__" : Str))=false) (d3:(xn==("__debug__" : Str))=false) :
  wpAny (model prog w) A (eval (.Subscript (.Name vn p1) (.Name xn p2) p3) env) Q E s:=by
 refine Subscript_ (wpAny_Name (wpAny_loadName_free hk hv hc hC ?_ d2) d1)
 refine wpAny_Name (wpAny_loadName_local hk hx hn hm ?_) d3
 obtain ⟨p,rfl,⟨its,hp,i0,i1,e⟩ | ⟨its,hp,i0,i1,e⟩⟩:=hI
 ·have hlt:i.toNat < its.size:=(Array.getElem?_eq_some_iff.mp e).1
  exact subscriptTail_builtinR (x:=v) hp.typeIs slot_tuple_getitem.lookup
   (getItem_tuple (j:=i.toNat) (Q:=fun r s'=>r=v/\Q r s') hp (by omega) (by omega) (jN i0 hlt) e ⟨rfl,h⟩)
 ·have hlt:i.toNat < its.size:=(Array.getElem?_eq_some_iff.mp e).1
  exact subscriptTail_builtinR (x:=v) hp.typeIs slot_list_getitem.lookup
   (wpAny_getItem_list (Q:=fun r s'=>r=v/\Q r s') hp (by omega) (by omega) e ⟨rfl,h⟩)
theorem yN {f c c':Addr} {q nm vn xn:Str} {params:Arguments} {scope:Scope} {cl:List (Str×Addr)} {pm ctv u v:Value} {p1 p2 p3:Pos} {i:Int} {t:Tok} {Q:Value->Shared->Prop} (hroom:A.depth < recursionLimit) (hlim:s.heap.NoLimit)
  (hf:s.heap.get? f=some { cls:=.type "function",data:=.func (PySem.W.kla_fn nm q params (.Subscript (.Name vn p1) (.Name xn p2) p3) scope cl pm (.ref c') ctv) }) (hcd:s.heap.CodeRec (.ref c') q)
  (hbind:bindArgs (PySem.W.kla_fn nm q params (.Subscript (.Name vn p1) (.Name xn p2) p3) scope cl pm (.ref c') ctv) ⟨[.int i t],[]⟩=pure [(xn,.int i t)])
  (hx:scope.names.lookup xn=some .local) (hv:scope.names.lookup vn=some .free) (hco:scope.isCoroutine=false) (hgen:scope.isGenerator=false) (hk:scope.kind=.function) (hcell:∀ x∈scope.names,x.2≠.cell)
  (hc:cl.lookup vn=some c) (hC:s.heap.IsCell c (some u)) (hI:fN s.heap u i v) (h:∀ h' tk,(∀ b o,s.heap.get? b=some o->h'.get? b=some o)->Q v { s with heap:=h',toks:=tk })
  (d1:(vn==("__debug__" : Str))=false) (d2:(vn==("__classdict__" : Str))=false) (d3:(xn==("__debug__" : Str))=false) :
  wpAny (model prog w) A (call (.ref f) [.int i t]) Q E s:=by
 refine wpAny_call (PySem.W.kla_callFunE hroom hf rfl hco hgen rfl hcd ?_)
 rw [hbind]
 refine wpAny_pure (wpAny_newFunctionEnv hcell (fun y hy=>by rw [Qm.mp hy]; exact hx) (fun h₁ hns hsb=>⟨hlim.fresh _ hsb,?_⟩) hk)
 have hk₁:∀ b o,s.heap.get? b=some o->h₁.get? b=some o:=fun b o e=>hsb.extBut b o (Jd (Qk e)) (Qc _ e)
 obtain ⟨oc,hoc,hdc⟩:=hC
 refine PySem.W.kla_codeExpr (aAF (env:=newEnv scope s.heap.objs.size mainGlobals cl (q ++ ".<locals>.") (some f) (.ref c') none builtinsNs) (m:=fun x=>[(xn,Value.int i t)].reverse.lookup x) (t:=t) hk hv hx hc ⟨oc,hk₁ _ _ hoc,hdc⟩ hns ?_ (hI.keeps hk₁) (h h₁ _ hk₁) d1 d2 d3)
 simp [List.lookup]
section
variable {R:Result->Shared->Prop} {I:Addr} {fp wr:List Addr} {n:Nat} {Pv:Nat->Value->Prop} {St:Nat->Heap->Prop} {f:Addr} {kf:Nat->Int} {L:List (Addr×Obj)}
def yO (prog:Program) (w:World) (A:Around) (f:Addr) (L:List (Addr×Obj)) (n:Nat) (Pv:Nat->Value->Prop) (kf:Nat->Int):Prop :=
 ∀ i v (s:Shared) (Q:Value->Shared->Prop) (E:Value->Shared->Prop),i < n->Pv i v->(∀ p∈L,s.heap.get? p.1=some p.2) ->
  (∀ h' tk t,(∀ b o,s.heap.get? b=some o->h'.get? b=some o)->Q (.int (kf i) t) { s with heap:=h',toks:=tk })->wpAny (model prog w) A (call (.ref f) [v]) Q E s
abbrev btK (kf:Nat->Int):Nat->Nat->Bool:=fun i j=>decide (kf i < kf j)
theorem qN (W:Walks prog w A.in1 I fp wr n Pv St) (hkey:yO prog w A.in1 f L n Pv kf) (S:Addr) (hSf:S∉fp) (hL:∀ p∈L,p.1∉wr/\p.1≠S) :
  ∀ (k j:Nat) (s:Shared) (vb:Value) (t:Tok) (c:Nat),n - (j+1)=k->j+1<=n->St (j+1) s.heap->Pv (argBest (btK kf) j) vb ->
  s.heap.get? S=some { cls:=.type "list",dict:=none,data:=.seq #[vb,.int (kf (argBest (btK kf) j)) t] c,slots:=#[] }->(∀ p∈L,s.heap.get? p.1=some p.2) ->
  (∀ v h' tk,Pv (argBest (btK kf) (n - 1)) v->(∀ b o,b∉wr->b≠S->s.heap.get? b=some o->h'.get? b=some o)->R (.ok (.ret v)) { s with heap:=h',toks:=tk }) ->
  codeAny (model prog w) A (.builtin "min.loop" ⟨[.ref I,.ref f,.ref S],[]⟩) R s:=by
 have hSw:S∉wr:=fun h=>hSf (W.sub _ h)
 have hname:(toString "min" ++ toString ".loop" : String) = "min.loop" := by decide
 intro k
 induction k with
 | zero =>
  intro j s vb t c hk hj hst hPb hS hLs hR
  have hin:j+1=n:=by omega
  refine codeAny_builtin F.entry_min_loop ?_
  rw [Around.under_plainId F.plain_min_loop _]
  show wpAny _ A.in1 (seqItems? (.ref S) >>= _) _ _ s
  refine wpAny_bind (wpAny_seqItems hS rfl ?_)
  show wpAny _ A.in1 (tryCatch (pyNext (.ref I)) _ >>= _) _ _ s
  refine wpAny_bind (wpAny_tryCatch (W.done s _ _ (hin ▸ hst) fun h' tk kk=>?_))
  have hS':=kk S _ hSw hS
  show wpAny _ A.in1 (updateSeq S (fun _=>#[]) >>= _) _ _ _
  refine wpAny_bind ?_
  refine wpAny_updateSeq hS' rfl (wpAny_bind (wpAny_letGo (wpAny_pure ?_)))
  exact hR vb _ _ (by rw [<- hin]; exact hPb) fun b o hb hbS e=>(Jx _ _ (Ne.symm hbS)).trans (kk b o hb e)
 | succ k ih =>
  intro j s vb t c hk hj hst hPb hS hLs hR
  have hlt:j+1 < n:=by omega
  refine codeAny_builtin F.entry_min_loop ?_
  rw [Around.under_plainId F.plain_min_loop _]
  show wpAny _ A.in1 (seqItems? (.ref S) >>= _) _ _ s
  refine wpAny_bind (wpAny_seqItems hS rfl ?_)
  show wpAny _ A.in1 (tryCatch (pyNext (.ref I)) _ >>= _) _ _ s
  refine wpAny_bind (wpAny_tryCatch (W.item (j+1) s _ _ hlt hst fun v h1 tk1 hP hst1 kk1=>?_))
  have hS1:=kk1 S _ hSw hS
  show wpAny _ A.in1 (tryCatch (holding [v] (call (.ref f) [v])) _ >>= _) _ _ _
  refine wpAny_bind (wpAny_tryCatch (wpAny_holding (hkey (j+1) v _ _ _ hlt hP (fun p hp=>kk1 _ _ (hL p hp).1 (hLs p hp)) fun h2 tk2 t2 kk2=>?_)))
  have hS2:=kk2 S _ hS1
  have hst2:St (j+1+1) h2:=W.frame _ _ _ hst1 fun b _ o e=>kk2 b o e
  show wpAny _ A.in1 (tryCatch (holding [v,.int (kf (j+1)) t2] (richCompare .Lt (.int (kf (j+1)) t2) (.int (kf (argBest (btK kf) j)) t) >>= _)) _ >>= _) _ _ _
  have hcmp:CmpOf prog w A.in1 .Lt (fun i u=>∃ t,u=.int (kf i) t) (btK kf):=CmpOf.ints_lt kf fun i v h=>h
  refine wpAny_bind (wpAny_tryCatch (wpAny_holding (wpAny_bind (hcmp (j+1) (argBest (btK kf) j) _ _ _ _ _ ⟨_,rfl⟩ ⟨_,rfl⟩ ?_))))
  refine wpAny_bind (wpAny_holding (wpAny_truthy_bool ?_))
  refine wpAny_bind (wpAny_letGo (wpAny_pure ?_))
  have kk:∀ b o,b∉wr->s.heap.get? b=some o->h2.get? b=some o:=fun b o hb e=>kk2 b o (kk1 b o hb e)
  cases hb:btK kf (j+1) (argBest (btK kf) j) with
  | true =>
   simp only [if_true]
   refine wpAny_bind ?_
   refine wpAny_updateSeq hS2 rfl (wpAny_bind (wpAny_letGo ?_))
   rw [hname]
   have eb:argBest (btK kf) (j+1)=j+1:=by simp only [argBest,hb,if_true]
   refine wpAny_pure ⟨plainId_quiet F.plain_min_loop _,ih (j+1) _ v t2 _ (by omega) hlt (W.frame _ _ _ hst2 fun b hbf o e=>?_) (by rw [eb]; exact hP) (by rw [eb]; exact Zn _ hS2 rfl) (fun p hp=>?_) fun v' h' tk hP' kk'=>?_⟩
   ·exact (Jx _ _ (fun h:S=b=>hSf (by rw [h]; exact hbf))).trans e
   ·exact (Jx _ _ (Ne.symm (hL p hp).2)).trans (kk _ _ (hL p hp).1 (hLs p hp))
   ·exact hR v' h' tk hP' fun b o hb hbS e=>kk' b o hb hbS ((Jx _ _ (Ne.symm hbS)).trans (kk b o hb e))
  | false =>
   simp only [Ye,if_false]
   refine wpAny_bind (wpAny_letGo ?_)
   rw [hname]
   have eb:argBest (btK kf) (j+1)=argBest (btK kf) j:=by simp only [argBest,hb,Ye,if_false]
   refine wpAny_pure ⟨plainId_quiet F.plain_min_loop _,ih (j+1) _ vb t c (by omega) hlt hst2 (by rw [eb]; exact hPb) (by rw [eb]; exact hS2) (fun p hp=>kk _ _ (hL p hp).1 (hLs p hp)) fun v' h' tk hP' kk'=>?_⟩
   exact hR v' h' tk hP' fun b o hb hbS e=>kk' b o hb hbS (kk b o hb e)
theorem oQ (W:Walks prog w A.in1 I fp wr n Pv St) (hkey:yO prog w A.in1 f L n Pv kf) (S:Addr) (hSf:S∉fp) (hL:∀ p∈L,p.1∉wr/\p.1≠S) (hn:0 < n) {s:Shared} {c:Nat} (hst:St 0 s.heap)
  (hS:s.heap.get? S=some { cls:=.type "list",dict:=none,data:=.seq #[] c,slots:=#[] }) (hLs:∀ p∈L,s.heap.get? p.1=some p.2)
  (hR:∀ v h' tk,Pv (argBest (btK kf) (n - 1)) v->(∀ b o,b∉wr->b≠S->s.heap.get? b=some o->h'.get? b=some o)->R (.ok (.ret v)) { s with heap:=h',toks:=tk }) :
  codeAny (model prog w) A (.builtin "min.loop" ⟨[.ref I,.ref f,.ref S],[]⟩) R s:=by
 have hSw:S∉wr:=fun h=>hSf (W.sub _ h)
 have hname:(toString "min" ++ toString ".loop" : String) = "min.loop" := by decide
 refine codeAny_builtin F.entry_min_loop ?_
 rw [Around.under_plainId F.plain_min_loop _]
 show wpAny _ A.in1 (seqItems? (.ref S) >>= _) _ _ s
 refine wpAny_bind (wpAny_seqItems hS rfl ?_)
 show wpAny _ A.in1 (tryCatch (pyNext (.ref I)) _ >>= _) _ _ s
 refine wpAny_bind (wpAny_tryCatch (W.item 0 s _ _ hn hst fun v h1 tk1 hP hst1 kk1=>?_))
 have hS1:=kk1 S _ hSw hS
 show wpAny _ A.in1 (tryCatch (holding [v] (call (.ref f) [v])) _ >>= _) _ _ _
 refine wpAny_bind (wpAny_tryCatch (wpAny_holding (hkey 0 v _ _ _ hn hP (fun p hp=>kk1 _ _ (hL p hp).1 (hLs p hp)) fun h2 tk2 t2 kk2=>?_)))
 have hS2:=kk2 S _ hS1
 have hst2:St (0+1) h2:=W.frame _ _ _ hst1 fun b _ o e=>kk2 b o e
 show wpAny _ A.in1 (updateSeq S (fun _=>#[v,.int (kf 0) t2]) >>= _) _ _ _
 refine wpAny_bind ?_
 refine wpAny_updateSeq hS2 rfl ?_
 rw [hname]
 have kk:∀ b o,b∉wr->s.heap.get? b=some o->h2.get? b=some o:=fun b o hb e=>kk2 b o (kk1 b o hb e)
 refine wpAny_pure ⟨plainId_quiet F.plain_min_loop _,qN W hkey S hSf hL _ 0 _ v t2 _ rfl hn (W.frame _ _ _ hst2 fun b hbf o e=>?_) hP (Zn _ hS2 rfl) (fun p hp=>?_) fun v' h' tk hP' kk'=>?_⟩
 ·exact (Jx _ _ (fun h:S=b=>hSf (by rw [h]; exact hbf))).trans e
 ·exact (Jx _ _ (Ne.symm (hL p hp).2)).trans (kk _ _ (hL p hp).1 (hLs p hp))
 ·exact hR v' h' tk hP' fun b o hb hbS e=>kk' b o hb hbS ((Jx _ _ (Ne.symm hbS)).trans (kk b o hb e))
theorem qO (a k:Value):argsOk "min" ⟨[a],[(Str.ofString "key",k)]⟩:=by unfold argsOk; kernel_rfl
theorem qP {id:String} {b:Builtin} {args:List Value} {kw:List (Str×Value)} {Q:Value->Shared->Prop} (hk:builtinKind id=none) (hp:plainId id=true)
  (hb:entryFor table id=some b) (ha:argsOk id ⟨args,kw⟩)
  (hc:wpAny (model prog w) A.in1 (b ⟨args,kw⟩) (fun fin s'=>match fin with
   | .done f=>(match (Except.ok f:Result) with | .ok (.ret v)=>Q v s' | .ok _=>False | .error e=>E e s')
   | .again c'=>c'.quiet=true/\codeAny (model prog w) A c' (fun r s'=>match r with | .ok (.ret v)=>Q v s' | .ok _=>False | .error e=>E e s') s') E s) :
  wpAny (model prog w) A (call (.builtin id) args kw) Q E s:=by
 refine wpAny_call (codeAny_call_builtin hp hb ?_)
 simp only [checkBuiltinCall,hk]
 cases hsig:Manifest.signature? id with
 | none=>exact wpAny_pure hc
 | some sig =>
  simp only [argsOk,hsig] at ha
  have h2:Bind.checkArgs id sig ⟨args,kw⟩=pure ():=ha
  show wpAny _ A.in1 (Bind.checkArgs id sig ⟨args,kw⟩) _ _ s
  rw [h2]; exact wpAny_pure hc
theorem qQ {x:Value} {Q:Value->Shared->Prop}
  (h:wpAny (model prog w) A.in1 (pyIter x) (fun it s₂=>∃ I fp wr n Pv St kf L,it=.ref I/\Walks prog w A.in1 I fp wr n Pv St/\St 0 s₂.heap/\(∀ b∈fp,b < s₂.heap.objs.size)/\0 < n/\yO prog w A.in1 f L n Pv kf /\
   (∀ p∈L,p.1∉wr)/\(∀ p∈L,s₂.heap.get? p.1=some p.2) /\
   ∀ v h' tk,Pv (argBest (btK kf) (n - 1)) v->(∀ b o,b∉wr->s₂.heap.get? b=some o->h'.get? b=some o)->Q v { s₂ with heap:=h',toks:=tk }) E s) :
  wpAny (model prog w) A (call (.builtin "min") [x] [(Str.ofString "key",.ref f)]) Q E s:=by
 have hname:(toString "min" ++ toString ".loop" : String) = "min.loop" := by decide
 refine qP F.kind_min F.plain_min F.entry_min (qO _ _) ?_
 show wpAny _ A.in1 (Builtin.Builtins.bindParams "min" ["key", "default"] 0 ⟨[],[(Str.ofString "key",.ref f)]⟩ >>= _) _ _ s
 refine wpAny_bind (wpAny_of_eq (show Builtin.Builtins.bindParams "min" ["key", "default"] 0 ⟨[],[(Str.ofString "key",.ref f)]⟩=pure [some (.ref f),none] from rfl) ?_)
 refine wpAny_bind (wpAny_pure ?_)
 refine wpAny_bind (wpAny_mono h (fun it s₂ h₂=>?_) fun _ _ e=>e)
 obtain ⟨I,fp,wr,n,Pv,St,kf,L,rfl,W,hst,hfp,hn,hkey,hLw,hLs,hQ⟩:=h₂
 refine wpAny_bind (wpAny_newObj_type ?_)
 have hSf:s₂.heap.objs.size∉fp:=fun hm=>Jn _ (hfp _ hm)
 rw [hname]
 refine wpAny_pure ⟨plainId_quiet F.plain_min_loop _,oQ W hkey s₂.heap.objs.size hSf (fun p hp=>⟨hLw p hp,Jd (Qk (hLs p hp))⟩) hn (W.frame _ _ _ hst fun b _ o e=>Qc _ e) (Ql _ rfl) (fun p hp=>Qc _ (hLs p hp)) fun v h' tk hP hk=>?_⟩
 exact hQ v h' tk hP fun b o hbw e=>hk b o hbw (Jd (Qk e)) (Qc _ e)
end
end
structure Lm (K:PySem.W.Frag) (mg:Str->Option Value) (base:Heap) (c P:Addr):Prop where
 hd:PySem.W.codeHdIn K c P=true
 gP:mainGlobals≠P
 bu:base.BuiltinsAt mg P
theorem iR {pos p0:Pos} {c cv:Value}:∀ {l:List Value},TriplesOk l->codeAmong pos (l++[rawInt p0.line,rawInt p0.col,c])=some cv->codeAmong pos l=some cv∨cv=c
 | [],_,e=>by
  simp only [Yc,rawInt,codeAmong] at e
  split at e
  ·exact .inr (Option.some.inj e).symm
  ·cases e
 | .int a t::.int b u::x::r,h,e=>by
  simp only [Yn,codeAmong] at e ⊢
  split
  ·rename_i hc
   rw [if_pos hc] at e
   exact .inl e
  ·rename_i hc
   rw [if_neg hc] at e
   exact iR (show TriplesOk r from h) e
section
variable {X:Cx} {pins:List (Addr×Obj)} {σ:St} {H:Hp} {s:Shared} {c P c':Addr} {q:Str} {ps:Array Value} {h':Heap} {t':Nat}
theorem Inv.grown {p0:Pos} (I:Inv X pins σ H s) (hT:H P=some (.tab q)) (hx:Heap.ExtBut P s.heap h') (hge:s.heap.objs.size<=c') (hcr:h'.CodeRec (.ref c') q) (hP0:s.heap.get? P=some (PySem.W.tabObj ps)) (hPt:h'.get? P=some (PySem.W.tabObj (ps++#[rawInt p0.line,rawInt p0.col,.ref c']))) :
  Inv X pins σ (upd H c' (.own P)) { s with heap:=h',toks:=t' }:=by
 have hf:H c'=none:=I.hok.fresh hge
 have hn:∀ b,H b=none->b≠P:=fun b n z=>by rw [z,hT] at n; cases n
 have hc:∀ b u,H b=some u->b≠c':=fun b u n z=>by rw [z,hf] at n; cases n
 have hlt:∀ b o,s.heap.get? b=some o->b≠c':=fun b o e=>Jd (Qo (Qk e) hge)
 obtain ⟨c2,oc,vs,tq,ec,hoc,hdc,hv⟩:=hcr
 cases ec
 refine I.un ⟨fun b o e n _ _=>hx b o (hn b n) e,fun b o e n _ _=>⟨o.slots,hx b o (hn b n) e⟩,fun b o e n _=>by rw [aD (hlt b o e)]; exact n,fun b o e _=>?_,fun b xs e=>by rw [aD (hc b _ e)]; exact e,fun b o u e=>by rw [aD (hc b _ e)]; exact e,fun b ps e=>⟨#[],by rw [aD (hc b _ e),e]; simp⟩⟩ ?_
 ·by_cases hb:b=P
  ·subst hb; exact ⟨_,hPt⟩
  ·exact ⟨o,hx b o hb e⟩
 ·intro b u e
  by_cases hb:b=c'
  ·subst hb
   rw [aA] at e; cases e
   exact ⟨oc,hoc⟩
  ·rw [aD hb] at e
   by_cases hbP:b=P
   ·subst hbP
    rw [hT] at e; cases e
    obtain ⟨ps0,e0,tr,r⟩:∃ ps:Array Value,s.heap.get? b=some { cls:=.none,data:=.fields ps }/\TriplesOk ps.toList/\∀ (pos:Pos) (cv:Value),codeAmong pos ps.toList=some cv->∃ (c:Addr) (o:Obj) (vs:Array Value) (t:Tok),cv=.ref c/\H c=some (.own b)/\s.heap.get? c=some o/\o.data=.fields vs/\(vs[1]?:Option Value)=some (.str q t):=I.hok b _ hT
    rw [hP0] at e0
    cases e0
    have el:(ps++#[rawInt p0.line,rawInt p0.col,Value.ref c']).toList=ps.toList++[rawInt p0.line,rawInt p0.col,.ref c']:=by simp
    refine ⟨_,hPt,by rw [el]; exact TriplesOk_snoc _ _ _ _ tr,fun pos cv z=>?_⟩
    rw [el] at z
    rcases iR tr z with z | rfl
    ·obtain ⟨c3,o3,vs3,t3,r1,r2,r3,r4⟩:=r pos cv z
     have n3:c3≠b:=fun y=>by rw [y,hT] at r2; cases r2
     exact ⟨c3,o3,vs3,t3,r1,by rw [aD (hc _ _ r2)]; exact r2,hx _ _ n3 r3,r4⟩
    ·exact ⟨c',oc,vs,tq,rfl,aA,hoc,hdc,hv⟩
   ·refine (I.hok b u e).stay (fun d v hd z=>hx d v ?_ z) (fun d z=>by rw [aD (hc _ _ z)]; exact z) fun d xs z=>by rw [aD (hc _ _ z)]; exact z
    rcases hd with rfl | hd
    ·exact hbP
    ·intro z
     rw [z,hT] at hd; cases hd
theorem yP {params:Arguments} {body:Expr} {scope:Scope} {pos:Pos} {cl:List (Str×Addr)} {Q:Value->Shared->Prop} {E:Value->Shared->Prop} (I:Inv X pins σ H s) (Z:Lm X.K X.mg X.base c P) (hcode:X.env.code=.ref c) (hT:H P=some (.tab q)) (hq:X.env.qual ++ "<lambda>" = q)
  (hdef:defaultsOf params X.env=([],[])) (hcl:closureFor scope X.env=pure cl)
  (h:∀ f c' ctv pm s' H',Inv X pins σ H' s'->aG H H'->(∀ b o,b≠P->s.heap.get? b=some o->s'.heap.get? b=some o) ->
   s'.heap.get? f=some { cls:=.type "function",data:=.func (PySem.W.kla_fn "<lambda>" q params body scope cl pm (.ref c') ctv) }->s'.heap.CodeRec (.ref c') q->Q (.ref f) s') :
  wpAny (model X.prog X.w) X.A (eval (.Lambda params body scope pos) X.env) Q E s:=by
 obtain ⟨ps,hP,tr,r⟩:∃ ps:Array Value,s.heap.get? P=some { cls:=.none,data:=.fields ps }/\TriplesOk ps.toList/\∀ (pos:Pos) (cv:Value),codeAmong pos ps.toList=some cv->∃ (c:Addr) (o:Obj) (vs:Array Value) (t:Tok),cv=.ref c/\H c=some (.own P)/\s.heap.get? c=some o/\o.data=.fields vs/\(vs[1]?:Option Value)=some (.str q t):=I.hok P _ hT
 have hg:s.heap.Ns mainGlobals X.mg:=I.mod.glob.keeps I.bk
 have C:PySem.W.CodeHd s.heap c P:=PySem.W.codeHd_of_K I.kIn Z.hd
 have hb:s.heap.BuiltinsAt X.mg P:=by
  obtain ⟨bm,o,e1,e2,e3,e4,e5,e6⟩:=Z.bu
  exact ⟨bm,o,e1,e2,e3,e4,I.bk _ _ e5,e6⟩
 refine PySem.W.kla_eval hdef ?_
 rw [hq]
 cases hf:codeAmong pos ps.toList with
 | none =>
  refine PySem.W.kla_makeFunction hcl I.ok.glob hg hcode C hP tr hf Z.gP hb fun c' ctv h' tk hx hge hlt hcr hPt=>?_
  have I1:Inv X pins σ (upd H c' (.own P)) { s with heap:=h',toks:=tk }:=I.grown hT hx hge hcr hP hPt
  have I2:=I1.kept (h':=h'.push (PySem.W.kla_obj "<lambda>" q params body scope cl ((X.mg "__name__").getD .none) c' ctv)) (t':=tk) fun b o e=>Qc _ e
  refine h _ c' ctv _ _ _ I2 (aG.new (I.hok.fresh hge)) (fun b o hbP e=>Qc _ (hx b o hbP e)) (Ql _ rfl) ?_
  obtain ⟨c2,oc,vs,tq,ec,hoc,r⟩:=hcr
  exact ⟨c2,oc,vs,tq,ec,Qc _ hoc,r⟩
 | some cv =>
  obtain ⟨c',o,vs,t,rfl,r2,r3,r4,r5⟩:=r pos cv hf
  refine PySem.W.kla_makeFunctionHit hcl I.ok.glob hg hcode C hP tr hf hb fun ctv h' tk kk hsz=>?_
  have I2:=I.kept (h':=h'.push { cls:=.type "function",data:=.func (PySem.W.kla_fn "<lambda>" q params body scope cl ((X.mg "__name__").getD .none) (.ref c') ctv) }) (t':=tk) fun b o e=>Qc _ (kk b o e)
  exact h _ c' ctv _ _ _ I2 (aG.refl H) (fun b o _ e=>Qc _ (kk b o e)) (Ql _ rfl) ⟨c',o,vs,t,rfl,Qc _ (kk _ _ r3),r4,r5⟩
end
theorem iS (num:Nat->Int):∀ k,∀ l,l < argBest (btK num) k->num (argBest (btK num) k) < num l
 | 0=>fun l hl=>by simp [argBest] at hl
 | k+1=>fun l hl=>by
  have h2:=(argBest_lt num k).2
  simp only [argBest] at hl ⊢
  by_cases hc:num (k+1) < num (argBest (btK num) k)
  ·rw [if_pos (show btK num (k+1) (argBest (btK num) k)=true from decide_eq_true hc)] at hl ⊢
   have:=h2 l (by omega)
   show num (k+1) < num l
   have e:num (argBest (fun i j=>decide (num i < num j)) k)=num (argBest (btK num) k):=rfl
   omega
  ·rw [if_neg (show ¬ btK num (k+1) (argBest (btK num) k)=true from fun z=>hc (of_decide_eq_true z))] at hl ⊢
   exact iS num k l hl
def vF (K:PySem.W.Frag) (H:Hp) (x:V) (ns:List Int):Prop:=∃ a,x=.ref a/\(SqL K H a (ns.map V.int)∨SqT K H a (ns.map V.int)∨∃ kvs:List (Key×V),H a=some (.dK kvs)/\kvs.map (·.1)=ns.map Sum.inl)
def vG (K:PySem.W.Frag) (H:Hp) (u:V) (n k:Int):Prop:=0<=n/\n < 1000/\∃ a xs,u=.ref a/\(SqT K H a xs∨SqL K H a xs)/\xs[n.toNat]?=some (.int k)
def aAG (K:PySem.W.Frag) (P:Addr) (q:Str) (iv:Nat) (te:TE):TE:=fun σ H Q=>te σ H fun x H1=>∃ (ns:List Int) (kf:Int->Int) (u:V),vF K H1 x ns/\0 < ns.length/\H1 P=some (.tab q)/\σ[iv]?=some (some u)/\(∀ n∈ns,vG K H1 u n (kf n)) /\
 ∀ (j:Nat) (m:Int) (H2:Hp),aG H1 H2->ns[j]?=some m->(∀ n∈ns,kf m<=kf n)->(∀ (l:Nat) (n:Int),l < j->ns[l]?=some n->kf m < kf n)->Q (.int m) H2
section
variable {X:Cx} {pins:List (Addr×Obj)} {σ:St} {H:Hp} {s:Shared}
theorem uI {A:Around} {x:V} {u:Value} {ns:List Int} {Q:Value->Shared->Prop} {E:Value->Shared->Prop} (hh:A.handled=none) (I:Inv X pins σ H s) (hx:vF X.K H x ns) (r:aQ x u)
  (h:∀ (It:Addr) fp (Pv:Nat->Value->Prop) St s2,Walks X.prog X.w A It fp [It] ns.length Pv St->(∀ i v,Pv i v->∃ n t,ns[i]?=some n/\v=.int n t)->St 0 s2.heap->(∀ b∈fp,b < s2.heap.objs.size)->s.heap.objs.size<=It ->
   (∀ b o,s.heap.get? b=some o->s2.heap.get? b=some o)->(∃ h2,s2={ s with heap:=h2 })->Q (.ref It) s2):wpAny (model X.prog X.w) A (pyIter u) Q E s:=by
 obtain ⟨a,rfl,hx⟩:=hx
 cases r
 rcases hx with hx | hx | ⟨kvs,hx,hk⟩
 ·obtain ⟨its,rv,p,hz⟩:=I.list hx
  have hl:=rv.length
  rw [Qd] at hl
  have ht:=p.isList
  have hlt:a < s.heap.objs.size:=by obtain ⟨o,e,_⟩:=ht; exact Qk e
  have hne:a≠s.heap.objs.size:=Jd hlt
  have W0:=Walks.list (prog:=X.prog) (w:=X.w) (A:=A) hh s.heap.objs.size a hne its.toArray
  rw [show its.toArray.size=ns.length by rw [Qp,hl]] at W0
  refine wpAny_pyIter_list ht (h s.heap.objs.size [s.heap.objs.size,a] _ _ { s with heap:=s.heap.push { cls:=.type "list_iterator",data:=.fields #[.ref a,.int 0 0] } } W0 (fun i v e=>?_) ⟨⟨_,Ql _ rfl,rfl,rfl⟩,ht.push _⟩ (fun b hb=>?_) (Qi _) (fun b o e=>Qc _ e) ⟨_,rfl⟩)
  ·have e':its[i]?=some v:=by simpa using e
   obtain ⟨hi,_⟩:=Qa.mp e'
   obtain ⟨w',ew,rw'⟩:=rv.get (i:=i) (x:=.int (ns[i]'(by omega))) (by rw [Qg,Qb (show i < ns.length by omega)]; rfl)
   rw [e'] at ew; cases ew
   obtain ⟨t,rfl⟩:=rw'
   exact ⟨_,t,Qb (show i < ns.length by omega),rfl⟩
  ·show b < (s.heap.push _).objs.size
   rw [Xa]
   simp only [Qs,Qy,or_false] at hb
   rcases hb with hb | hb
   ·rw [hb]; exact Zv _
   ·rw [hb]; exact Xt hlt
 ·obtain ⟨its,rv,p,hz⟩:=I.tuple hx
  have hl:=rv.length
  rw [Qd] at hl
  have ht:s.heap.IsTuple a its.toArray:=p
  have hlt:a < s.heap.objs.size:=by obtain ⟨o,e,_⟩:=ht; exact Qk e
  have hne:a≠s.heap.objs.size:=Jd hlt
  have W0:=Walks.tuple (prog:=X.prog) (w:=X.w) (A:=A) hh s.heap.objs.size a hne its.toArray
  rw [show its.toArray.size=ns.length by rw [Qp,hl]] at W0
  refine wpAny_pyIter_tuple ht (h s.heap.objs.size [s.heap.objs.size,a] _ _ { s with heap:=s.heap.push { cls:=.type "tuple_iterator",data:=.fields #[.ref a,.int 0 0] } } W0 (fun i v e=>?_) ⟨⟨_,Ql _ rfl,rfl,rfl⟩,ht.push _⟩ (fun b hb=>?_) (Qi _) (fun b o e=>Qc _ e) ⟨_,rfl⟩)
  ·have e':its[i]?=some v:=by simpa using e
   obtain ⟨hi,_⟩:=Qa.mp e'
   obtain ⟨w',ew,rw'⟩:=rv.get (i:=i) (x:=.int (ns[i]'(by omega))) (by rw [Qg,Qb (show i < ns.length by omega)]; rfl)
   rw [e'] at ew; cases ew
   obtain ⟨t,rfl⟩:=rw'
   exact ⟨_,t,Qb (show i < ns.length by omega),rfl⟩
  ·show b < (s.heap.push _).objs.size
   rw [Xa]
   simp only [Qs,Qy,or_false] at hb
   rcases hb with hb | hb
   ·rw [hb]; exact Zv _
   ·rw [hb]; exact Xt hlt
 ·obtain ⟨hz,hs,vs,kv,dd⟩:bB X.prog X.w H s.heap a (.dK kvs):=I.hok a _ hx
  obtain ⟨ep,da⟩:=dd.dictAt
  have hl:kvs.length=vs.length:=kv.length
  have hln:vs.length=ns.length:=by
   have:=congrArg Zw hk
   rw [Qd,Qd] at this
   omega
  have hlt:=da.lt_size
  have hne:a≠s.heap.objs.size:=Jd hlt
  have W0:=Walks.dictKeys (prog:=X.prog) (w:=X.w) (A:=A) (knd:=aP X.prog X.w) hh s.heap.objs.size a hne vs ep
  rw [hln] at W0
  refine wpAny_pyIter_dict hs da (h s.heap.objs.size [s.heap.objs.size,a] _ _ { s with heap:=s.heap.push { cls:=.type "dict_keyiterator",data:=.fields #[.ref a,.int 0 0,.int vs.length 0,.int ep 0] } } W0 (fun i v e=>?_) ⟨⟨_,Ql _ rfl,rfl,by rw [hln]; rfl⟩,da.push _⟩ (fun b hb=>?_) (Qi _) (fun b o e=>Qc _ e) ⟨_,rfl⟩)
  ·obtain ⟨k,x,hi,hk2⟩:=e
   have e1:(vs.map (·.1))[i]?=some k:=by rw [Qg,hi]; rfl
   rw [<- kv.keys,hk,Qg] at e1
   cases q:ns[i]? with
   | none=>rw [q] at e1; cases e1
   | some n =>
    rw [q] at e1
    have:k=Sum.inl n:=(Option.some.inj e1).symm
    subst this
    obtain ⟨t,rfl⟩:aQ (.int n) v:=mT hk2
    exact ⟨n,t,rfl,rfl⟩
  ·show b < (s.heap.push _).objs.size
   rw [Xa]
   simp only [Qs,Qy,or_false] at hb
   rcases hb with hb | hb
   ·rw [hb]; exact Zv _
   ·rw [hb]; exact Xt hlt
theorem vH {u:V} {uv:Value} {n k:Int} (I:Inv X pins σ H s) (hk:vG X.K H u n k) (r:aQ u uv):∃ t,fN s.heap uv n (.int k t):=by
 obtain ⟨h0,h1,a,xs,rfl,hx | hx,he⟩:=hk
 ·cases r
  obtain ⟨its,rv,p,hz⟩:=I.tuple hx
  obtain ⟨w',ew,t,rfl⟩:=rv.get he
  exact ⟨t,a,rfl,.inl ⟨its.toArray,p,h0,h1,by simpa using ew⟩⟩
 ·cases r
  obtain ⟨its,rv,p,hz⟩:=I.list hx
  obtain ⟨w',ew,t,rfl⟩:=rv.get he
  exact ⟨t,a,rfl,.inr ⟨its.toArray,p.isList,h0,h1,by simpa using ew⟩⟩
theorem fN.obj {h:Heap} {u:Value} {i:Int} {v:Value} (x:fN h u i v):∃ p o,u=.ref p/\h.get? p=some o/\∀ h':Heap,h'.get? p=some o->fN h' u i v:=by
 obtain ⟨p,rfl,⟨its,⟨o,ho,r⟩,q⟩ | ⟨its,⟨o,ho,r⟩,q⟩⟩:=x
 ·exact ⟨p,o,rfl,ho,fun h' e=>⟨p,rfl,.inl ⟨its,⟨o,e,r⟩,q⟩⟩⟩
 ·exact ⟨p,o,rfl,ho,fun h' e=>⟨p,rfl,.inr ⟨its,⟨o,e,r⟩,q⟩⟩⟩
theorem wT {e:Expr} {te:TE} {p kpos lpos p1 p2 p3 pos:Pos} {params:Arguments} {scope:Scope} {vn xn:Str} {c P:Addr} {q:Str} (iv:Nat) (hc:X.calm=true) (hr:Room 1 X.A) (hg:Gl X "min") (hm:X.mg "min" = none) (Z:Lm X.K X.mg X.base c P) (hcode:X.env.code=.ref c) (hq:X.env.qual ++ "<lambda>" = q)
  (he:PE X e te) (hN:X.N[iv]?=some vn) (hkv:X.env.kindOf vn=some .cell)
  (hdef:defaultsOf params X.env=([],[]):=by rfl) (hcl:cJ X.env scope.names []=(match X.env.cells.lookup vn with | some c=>[(vn,c)] | none=>[]):=by rfl)
  (hfr:∀ y∈scope.names,y.2=.free->y.1=vn:=by decide +kernel)
  (hbind:∀ (cl:List (Str×Addr)) (pm cdv ctv:Value) (i:Int) (t:Tok),bindArgs (PySem.W.kla_fn "<lambda>" q params (.Subscript (.Name vn p1) (.Name xn p2) p3) scope cl pm cdv ctv) ⟨[.int i t],[]⟩=pure [(xn,.int i t)]:=by intro _ _ _ _ _ _; rfl)
  (hx:scope.names.lookup xn=some .local:=by rfl) (hv:scope.names.lookup vn=some .free:=by rfl) (hco:scope.isCoroutine=false:=by rfl) (hgen:scope.isGenerator=false:=by rfl) (hk:scope.kind=.function:=by rfl) (hcell:∀ x∈scope.names,x.2≠.cell:=by decide +kernel)
  (d1:(vn==("__debug__" : Str))=false:=by decide) (d2:(vn==("__classdict__" : Str))=false:=by decide) (d3:(xn==("__debug__" : Str))=false:=by decide)
  (hs1:starEach [e] X.env = [(false,eval e X.env)]:=by rfl) :
  PE X (.Call (.Name "min" p) [e] [⟨some "key",.Lambda params (.Subscript (.Name vn p1) (.Name xn p2) p3) scope lpos,kpos⟩] pos) (aAG X.K P q iv te):=by
 intro pins s σ H Q I h
 refine wpAny_Call_Name_kw (iY (u:=.builtin "min") I hg hm (by decide +kernel) ?_)
 have hpa:PA X [e] (rW te wE):=aB he aE hs1
 refine callWith_kw (thn (hpa pos pins s σ H (fun vs H1=>match vs with
   | [x] => ∃ (ns : List Int) (kf : Int -> Int) (u : V), vF X.K H1 x ns /\ 0 < ns.length /\ H1 P = some (.tab q) /\ σ[iv]? = some (some u) /\ (∀ n ∈ ns, vG X.K H1 u n (kf n)) /\
       ∀ (j:Nat) (m:Int) (H2:Hp),aG H1 H2->ns[j]?=some m->(∀ n∈ns,kf m<=kf n)->(∀ (l:Nat) (n:Int),l < j->ns[l]?=some n->kf m < kf n)->Q (.int m) H2
   | _=>False) I h) fun us s1 ⟨vs,H1,I1,r1,q1⟩=>?_) (by rw [hs1]; rfl) (by rw [hs1]; rfl)
 match vs,r1,q1 with
 | [x],r1,q1 =>
  obtain ⟨ns,kf,u,hit,hpos,hT,hu,hkeys,k⟩:=q1
  obtain ⟨xv,rfl,rx⟩:=eK r1
  -- the cell of the name
  obtain ⟨m1,hns1,hl1⟩:=id I1.loc
  obtain ⟨uv,ru,lk⟩:=hl1 iv vn u hN hu (.inr (.inl hkv))
  obtain ⟨cc,hcc,hIc⟩:∃ cc,X.env.cells.lookup vn=some cc/\s1.heap.IsCell cc (some uv):=by
   rcases lk with ⟨z,_⟩ | ⟨_,z⟩
   ·rw [hkv] at z; cases z
   ·exact z
  have hclo:closureFor scope X.env=pure [(vn,cc)]:=by
   rw [uF fun y hy z=>⟨cc,by rw [hfr y hy z]; exact hcc⟩,hcl,hcc]
  refine kws_cons (yP I1 Z hcode hT hq hdef hclo fun f c' ctv pm s2 H2 I2 sm kk hf hcr=>kws_nil ?_)
  show wpAny (model X.prog X.w) X.A (call (.builtin "min") [xv] [(Str.ofString "key",.ref f)]) _ _ _
  have hit2:vF X.K H2 x ns:=by
   obtain ⟨a,rfl,z | z | ⟨kvs,z,y⟩⟩:=hit
   ·exact ⟨a,rfl,.inl (sm.seqL z)⟩
   ·exact ⟨a,rfl,.inr (.inl (sm.seqT z))⟩
   ·exact ⟨a,rfl,.inr (.inr ⟨kvs,sm _ _ z,y⟩)⟩
  have hkeys2:∀ n∈ns,vG X.K H2 u n (kf n):=fun n hn=>by
   obtain ⟨h0,h1,a,xs,rfl,z | z,y⟩:=hkeys n hn
   ·exact ⟨h0,h1,a,xs,rfl,.inl (sm.seqT z),y⟩
   ·exact ⟨h0,h1,a,xs,rfl,.inr (sm.seqL z),y⟩
  -- what stays through the loop
  obtain ⟨fo,efo,hf⟩:∃ fo:Obj,fo={ cls:=.type "function",data:=.func (PySem.W.kla_fn "<lambda>" q params (.Subscript (.Name vn p1) (.Name xn p2) p3) scope [(vn,cc)] pm (.ref c') ctv) }/\s2.heap.get? f=some fo:=⟨_,rfl,hf⟩
  obtain ⟨c2,oc,cvs,tq,ec,hoc,hdc,hcv⟩:=hcr
  cases ec
  obtain ⟨ocl,hocl,hdcl⟩:s2.heap.IsCell cc (some uv):=by
   obtain ⟨o,ho,hd⟩:=hIc
   have nP:cc≠P:=fun z=>by rw [z] at hcc; have:=I1.freeC _ _ hcc; rw [hT] at this; cases this
   exact ⟨o,kk _ _ nP ho,hd⟩
  obtain ⟨mc,⟨oL,esL,epL,hoL,hdL,rL⟩,hlim⟩:=I2.nolimit
  have n0:ns[0]?=some (ns[0]):=Qb hpos
  obtain ⟨t0,it0⟩:=vH I2 (hkeys2 _ (Qe n0)) ru
  obtain ⟨pu,ou,eu,hou,_⟩:=it0.obj
  refine qQ (f:=f) (uI (A:=X.A.in1) (I2.ok.hd hc) I2 hit2 rx fun It fp Pv St s3 W hPv hst hfp hIt hk3 hx9=>?_)
  obtain ⟨h3,e3⟩:=hx9
  subst e3
  refine ⟨It,fp,[It],ns.length,Pv,St,fun i=>kf (ns.getD i 0),[(f,fo),(c',oc),(cc,ocl),(cStatics,oL),(pu,ou)],rfl,W,hst,hfp,hpos,?_,?_,?_,fun v h' tk hP kk'=>?_⟩
  ·intro i v s4 Q4 E4 hi hPi hL hQ4
   obtain ⟨n,t,hn,rfl⟩:=hPv i v hPi
   have eg:ns.getD i 0=n:=by rw [Jt,hn]; rfl
   obtain ⟨tk,itk⟩:=vH I2 (hkeys2 _ (Qe hn)) ru
   have it4:fN s4.heap uv n (.int (kf n) tk):=by
    obtain ⟨p',o',e',ho',hh⟩:=itk.obj
    rw [eu] at e'; cases e'
    rw [hou] at ho'; cases ho'
    exact hh _ (hL (pu,ou) (by simp))
   have rm:X.A.in1.depth < recursionLimit:=(Room.in1 hr).depth
   refine yN (cl:=[(vn,cc)]) (c:=cc) rm ⟨mc,⟨oL,esL,epL,hL (cStatics,oL) (by simp),hdL,rL⟩,hlim⟩ (by rw [<- efo]; exact hL (f,fo) (by simp)) ⟨c',oc,cvs,tq,rfl,hL (c',oc) (by simp),hdc,hcv⟩ (hbind _ _ _ _ _ _) hx hv hco hgen hk hcell (by simp [List.lookup]) ⟨ocl,hL (cc,ocl) (by simp),hdcl⟩ it4 (fun h5 tk5 k5=>?_) d1 d2 d3
   have:=hQ4 h5 tk5 tk k5
   dsimp only at this
   rw [eg] at this
   exact this
  ·intro pr hpr hz
   have hlt:∀ b o,s2.heap.get? b=some o->b≠It:=fun b o e=>Jd (Qo (Qk e) hIt)
   simp only [Qm] at hz
   simp only [Qs,Qy,or_false] at hpr
   rcases hpr with rfl | rfl | rfl | rfl | rfl
   ·exact hlt _ _ hf hz
   ·exact hlt _ _ hoc hz
   ·exact hlt _ _ hocl hz
   ·exact hlt _ _ hoL hz
   ·exact hlt _ _ hou hz
  ·intro pr hpr
   simp only [Qs,Qy,or_false] at hpr
   rcases hpr with rfl | rfl | rfl | rfl | rfl
   ·exact hk3 _ _ hf
   ·exact hk3 _ _ hoc
   ·exact hk3 _ _ hocl
   ·exact hk3 _ _ hoL
   ·exact hk3 _ _ hou
  ·obtain ⟨n,t,hn,rfl⟩:=hPv _ v hP
   have I3:Inv X pins σ H2 { s2 with heap:=h',toks:=tk }:=I2.kept fun b o e=>kk' b o (by simp; exact Jd (Qo (Qk e) hIt)) (hk3 b o e)
   have b1:=argBest_lt (fun i=>kf (ns.getD i 0)) (ns.length - 1)
   have b2:=iS (fun i=>kf (ns.getD i 0)) (ns.length - 1)
   have hat:∀ i y,ns[i]?=some y->ns.getD i 0=y:=fun i y e=>by rw [Jt,e]; rfl
   refine ⟨.int n,H2,I3,⟨t,rfl⟩,k _ n H2 sm hn (fun y hy=>?_) (fun l y hl hy=>?_)⟩
   ·obtain ⟨i,hi⟩:=Qw.mp hy
    have:=b1.2 i (by have:=(Qa.mp hi).1; omega)
    have e1:=hat _ _ hn
    have e2:=hat _ _ hi
    show kf n<=kf y
    rw [<- e1,<- e2]; exact this
   ·have:=b2 l hl
    have e1:=hat _ _ hn
    have e2:=hat _ _ hy
    rw [<- e1,<- e2]; exact this
end
def yQ (ts:List (Addr×Str)) (H:Hp):Prop:=(∀ b,H b=none∨(∃ o xs,H b=some (.frz o (.lst xs)))∨∃ q,H b=some (.tab q)/\(b,q)∈ts)/\∀ p∈ts,H p.1=some (.tab p.2)
theorem mU {h:Heap} {c P:Addr} (C:PySem.W.CodeHd h c P) (e:h.get? P=some (PySem.W.tabObj #[])):isCodeTable h P:=(C.tab e).isCodeTable
theorem wU {P:Program} {w:World} {K:PySem.W.Frag} {mg mb:Str->Option Value} {CX:CXT} {k:Nat} {fa a:Addr} {fd:FuncData} {x:Str} {sp:Sp} {s₁:Shared} {vs:List Value} {ns:List Int} {ts:List (Addr×Str)}
  (KX:K.In s₁.heap) (hns:s₁.heap.Ns mainGlobals mg) (hb:s₁.heap.Ns builtinsNs mb) (hbb:∀ x:Str,x ≠ "__name__" -> mb x=bootBuiltins x) (hlim:s₁.heap.NoLimit) (hmod:∃ mm,s₁.heap.Ns sysModules mm) (hg:s₁.gens = #[])
  (hbm:∃ bm ob,mg "__builtins__" = some (.ref bm)/\bm≠builtinsNs/\s₁.heap.get? bm=some ob/\ob.cls=.type "module" /\ ob.dict=some builtinsNs/\ob.data=.plain)
  (hts:∀ p∈ts,s₁.heap.get? p.1=some (PySem.W.tabObj #[])/\K.lookup p.1=none/\∃ c,PySem.W.CodeHd s₁.heap c p.1) (hnd:(ts.map (·.1)).Nodup)
  (ha:s₁.heap.get? a=some { cls:=.type "list",data:=.seq vs.toArray }) (hi:IntsAre vs ns) (hl:ns.length<=sizeLine) (hr:Room k callerA)
  (F:∀ base:Heap,K.In base->base.Ns mainGlobals mg->(∀ p∈ts,base.BuiltinsAt mg p.1)->FnOk P w K mg base CX k fa fd [x] sp) (hbind:∀ (s:Shared) (u:Value),BindsTo s fd ⟨[u],[]⟩ [(x,u)])
  (hsp:∀ H:Hp,yQ ts H->SqL K H a (ns.map V.int)->sp [.ref a] H (fun v H'=>v=.bl true/\∀ p∈ts,H' p.1=some (.tab p.2)) fun _ _ _=>False)
  (hCX:∀ H e s',CX [] H s₁ (fun _ _ _=>False) e s'->False) :
  codeAny (model P w) callerA (.call (.ref fa) ⟨[.ref a],[]⟩) (fun r s'=>r=.ok (.ret (.bool true))/\OldK s₁.heap s'.heap/\s'.os=s₁.os/\AllBare s'.gens) s₁:=by
 have rv:=pE hi
 have lenV:=hi.length
 have na:∀ p∈ts,p.1≠a:=fun p hp z=>by
  have:=(hts p hp).1
  rw [z,ha] at this; cases this
 -- from an abstract heap in which nothing but the script and the tables may be tracked
 have core:∀ H:Hp,yQ ts H->SqL K H a (ns.map V.int)->HOk P w H s₁.heap->(∀ b,H b≠none->b=a∨∃ q,(b,q)∈ts)->(H a≠none->K.lookup a=none) ->
   codeAny (model P w) callerA (.call (.ref fa) ⟨[.ref a],[]⟩) (fun r s'=>r=.ok (.ret (.bool true))/\OldK s₁.heap s'.heap/\s'.os=s₁.os/\AllBare s'.gens) s₁:=by
  intro H hO hS hok hA hK
  have base_of:∀ {b:Addr} {o:Obj},s₁.heap.get? b=some o->H b=none->(oK s₁.heap H).get? b=some o:=fun e n=>xI e n
  have noA:∀ {b:Addr} {o:Obj} {es:Array DictEntry} {ep:Nat},s₁.heap.get? b=some o->o.data=.dict es ep->H b=none:=fun {b o es ep} e d=>by
   cases q:H b with
   | none=>rfl
   | some u =>
    rcases hA b (by rw [q]; simp) with e' | ⟨q',e'⟩
    ·subst e'
     rw [ha] at e; cases e
     have d':Data.seq vs.toArray _=Data.dict es ep:=d
     cases d'
    ·have:=(hts _ e').1
     have e2:s₁.heap.get? b=some (PySem.W.tabObj #[]):=this
     rw [e] at e2; cases e2
     have d':Data.fields _=Data.dict es ep:=d
     cases d'
  have nsK:∀ {b:Addr} {m:Str->Option Value},s₁.heap.Ns b m->(oK s₁.heap H).Ns b m:=fun {b m} ⟨o,es,ep,e,d,r⟩=>⟨o,es,ep,base_of e (noA e d),d,r⟩
  have hKb:K.In (oK s₁.heap H):=fun b o e=>base_of (KX b o e) (by
   cases q:H b with
   | none=>rfl
   | some u =>
    rcases hA b (by rw [q]; simp) with e' | ⟨q',e'⟩
    ·subst e'
     rw [hK (by rw [q]; simp)] at e; cases e
    ·have:=(hts _ e').2.1
     have e2:K.lookup b=none:=this
     rw [e] at e2; cases e2)
  have hBu:∀ p∈ts,(oK s₁.heap H).BuiltinsAt mg p.1:=fun p hp=>by
   obtain ⟨bm,ob,b1,b2,b3,b4,b5,b6⟩:=hbm
   have hn:H bm=none:=by
    cases q:H bm with
    | none=>rfl
    | some u =>
     rcases hA bm (by rw [q]; simp) with e' | ⟨q',e'⟩
     ·subst e'
      rw [ha] at b3; cases b3
      have d':Data.seq vs.toArray _=Data.plain:=b6
      cases d'
     ·have e2:s₁.heap.get? bm=some (PySem.W.tabObj #[]):=(hts _ e').1
      rw [b3] at e2; cases e2
      have d':Data.fields _=Data.plain:=b6
      cases d'
   refine ⟨bm,ob,b1,b2,fun z=>?_,fun z=>?_,base_of b3 hn,b4,b5,b6⟩
   ·obtain ⟨o,es,ep,e,d,r⟩:=hns
    rw [<- z,b3] at e; cases e
    rw [b6] at d; cases d
   ·have e2:s₁.heap.get? p.1=some (PySem.W.tabObj #[]):=(hts _ hp).1
    rw [<- z,b3] at e2; cases e2
    have d':Data.fields _=Data.plain:=b6
    cases d'
  have hM:Mod K mg (oK s₁.heap H):=⟨hKb,nsK hns,⟨mb,nsK hb,hbb⟩,let ⟨mc,h1,h2⟩:=hlim; ⟨mc,nsK h1,h2⟩,let ⟨mm,h1⟩:=hmod; ⟨mm,nsK h1⟩⟩
  have e0:Env0 P w K mg (oK s₁.heap H) callerA [] s₁ H:=⟨rfl,hM,fun b o e=>aAh e,Nat.le_of_eq (vY _ _),trivial,fun b hb=>absurd (show b∈([]:List Addr) from hb) (by simp),hok,.of_eq hg⟩
  refine codeAny_mono ((F _ hKb (nsK hns) hBu).run callerA [] s₁ H ⟨[.ref a],[]⟩ [.ref a] [.ref a] _ _ hr e0 (hbind s₁ (.ref a)) (.cons rfl .nil) (hsp H hO hS)) fun r s' h=>?_
  cases r with
  | error e=>exact (hCX H e s' h).elim
  | ok fl =>
   cases fl with
   | next=>exact False.elim h
   | brk=>exact False.elim h
   | cont=>exact False.elim h
   | ret u =>
    obtain ⟨v,H',os,bare,un,hok',r',q,qt⟩:=h
    have q':v=.bl true:=q
    subst q'
    obtain rfl:u=Value.bool true:=r'
    have keep:∀ b o,(∀ q,(b,q)∉ts)->s₁.heap.get? b=some o->s'.heap.get? b=some o:=fun b o hb e=>by
     cases q:H b with
     | none=>exact un.keep b o e q (by intro z; exact absurd (show b∈([]:List Addr) from z) (by simp)) (by simp)
     | some u =>
      rcases hO.1 b with z | ⟨ob,xs,z⟩ | ⟨q',z,zm⟩
      ·rw [q] at z; cases z
      ·have z2:=un.frzs b ob _ z
       obtain ⟨e1,_⟩:=hok b _ z
       obtain ⟨e2,_⟩:=hok' b _ z2
       rw [e] at e1; cases e1
       exact e2
      ·exact absurd zm (hb q')
    have grown:∀ b o q,(b,q)∈ts->s₁.heap.get? b=some o->isCodeTable s₁.heap b/\o=PySem.W.tabObj #[]/\∃ ps,s'.heap.get? b=some (PySem.W.tabObj ps):=fun b o q hm e=>by
     obtain ⟨h1,h2,c,h3⟩:=hts _ hm
     have h1':s₁.heap.get? b=some (PySem.W.tabObj #[]):=h1
     rw [e] at h1'
     obtain ⟨ps,hps,_⟩:bB P w H' s'.heap b (.tab q):=hok' b _ (qt _ hm)
     exact ⟨mU h3 h1,Option.some.inj h1',ps,hps⟩
    refine ⟨rfl,⟨fun b o e=>?_,fun b o e=>?_⟩,os,bare⟩
    ·by_cases hb:∃ q,(b,q)∈ts
     ·obtain ⟨q,hm⟩:=hb
      obtain ⟨ht,rfl,ps,hP⟩:=grown b o q hm e
      exact .inr (.inl ⟨ht,rfl,#[],ps,rfl,by rw [Array.empty_append]; exact hP⟩)
     ·exact .inl (keep b o (fun q z=>hb ⟨q,z⟩) e)
    ·by_cases hb:∃ q,(b,q)∈ts
     ·obtain ⟨q,hm⟩:=hb
      obtain ⟨_,_,ps,hP⟩:=grown b o q hm e
      exact ⟨_,hP⟩
     ·exact ⟨o,keep b o (fun q z=>hb ⟨q,z⟩) e⟩
 -- the tables
 have look:∀ {b:Addr} {q:Str},ts.lookup b=some q->(b,q)∈ts:=fun {b q} e=>by
  clear hts hnd hsp core na F
  induction ts with
  | nil=>cases e
  | cons p r ih =>
   rw [Jv] at e
   cases hb:b==p.1 with
   | true=>rw [hb] at e; cases e; rw [eq_of_beq hb]; exact .head _
   | false=>rw [hb] at e; exact .tail _ (ih e)
 have look2:∀ {b:Addr} {q:Str},(b,q)∈ts->ts.lookup b=some q:=fun {b q} e=>by
  clear hts hsp core na look F
  induction ts with
  | nil=>cases e
  | cons p r ih =>
   rw [Jv]
   rw [Qu,Je] at hnd
   rcases Qs.mp e with rfl | e
   ·simp
   ·have:(b==p.1)=false:=by
     rw [beq_eq_false_iff_ne]
     intro z
     exact hnd.1 (Js.mpr ⟨(b,q),e,z⟩)
    rw [this]
    exact ih hnd.2 e
 have tabOk:∀ (H:Hp) (b:Addr) (q:Str),(b,q)∈ts->bB P w H s₁.heap b (.tab q):=fun H b q hm=>⟨#[],(hts _ hm).1,trivial,fun pos cv z=>by simp [codeAmong] at z⟩
 cases hk:K.lookup a with
 | some o =>
  have e:=KX a o hk
  rw [ha] at e
  cases e
  refine core (fun b=>(ts.lookup b).map HO.tab) ⟨fun b=>?_,fun p hp=>by show (ts.lookup p.1).map HO.tab=_; rw [look2 (q:=p.2) hp]; rfl⟩ (.inr ⟨_,vs.toArray,_,hk,rfl,rfl,rfl,by rw [Qp,lenV]; exact hl,by simpa using rv⟩) (fun b u z=>?_) (fun b z=>?_) fun z=>?_
  ·cases q:ts.lookup b with
   | none=>exact .inl (by show (ts.lookup b).map HO.tab=none; rw [q]; rfl)
   | some y=>exact .inr (.inr ⟨y,by show (ts.lookup b).map HO.tab=_; rw [q]; rfl,look q⟩)
  ·have z':(ts.lookup b).map HO.tab=some u:=z
   cases q:ts.lookup b with
   | none=>rw [q] at z'; cases z'
   | some y=>rw [q] at z'; cases z'; exact tabOk _ _ _ (look q)
  ·have z':(ts.lookup b).map HO.tab≠none:=z
   cases q:ts.lookup b with
   | none=>rw [q] at z'; exact absurd rfl z'
   | some y=>exact .inr ⟨y,look q⟩
  ·exfalso
   have z':(ts.lookup a).map HO.tab≠none:=z
   cases q:ts.lookup a with
   | none=>rw [q] at z'; exact absurd rfl z'
   | some y=>exact na _ (look q) rfl
 | none =>
  have noa:ts.lookup a=none:=by
   cases q:ts.lookup a with
   | none=>rfl
   | some y=>exact absurd rfl (na _ (look q))
  refine core (fun b=>if b=a then some (.frz { cls:=.type "list",data:=.seq vs.toArray } (.lst (ns.map V.int))) else (ts.lookup b).map HO.tab) ⟨fun b=>?_,fun p hp=>?_⟩ (.inl (.inr ⟨{ cls:=.type "list",data:=.seq vs.toArray },if_pos rfl⟩)) (fun b u z=>?_) (fun b z=>?_) fun _=>hk
  ·by_cases hb:b=a
   ·exact .inr (.inl ⟨_,_,if_pos hb⟩)
   ·cases q:ts.lookup b with
    | none=>exact .inl ((if_neg hb).trans (by rw [q]; rfl))
    | some y=>exact .inr (.inr ⟨y,(if_neg hb).trans (by rw [q]; rfl),look q⟩)
  ·exact (if_neg (na p hp)).trans (by rw [look2 (q:=p.2) hp]; rfl)
  ·by_cases hb:b=a
   ·have z':=(if_pos hb).symm.trans z
    cases z'
    subst hb
    exact ⟨ha,by rw [Qd]; exact hl,vs,_,rv,ha⟩
   ·have z':=(if_neg hb).symm.trans z
    cases q:ts.lookup b with
    | none=>rw [q] at z'; cases z'
    | some y=>rw [q] at z'; cases z'; exact tabOk _ _ _ (look q)
  ·by_cases hb:b=a
   ·exact .inl hb
   ·cases q:ts.lookup b with
    | none=>exact absurd ((if_neg hb).trans (by rw [q]; rfl)) z
    | some y=>exact .inr ⟨y,look q⟩
theorem yR {l:PySem.W.OpenLaw} {n k:Nat} {q:Program} {loose:List Str} {XP:(Str->Option Value)->Heap->Prop} {YP:World->Heap->Prop} {d:DefRec} {K:Params->PySem.W.Frag} {CX:World->CXT} {sp:World->Sp} {x:Str} {ts:List (Addr×Str)}
  (hn:l.most=some n) (hn2:n<=sizeLine) (hdf:d.params.defaults = []) (hr:Room k callerA) (hq:importsNone q=true)
  (hY:∀ (w:World) (h:Heap),YP w h->(K w.params).In h)
  (hts:∀ (w:World) (h:Heap),YP w h->∀ p∈ts,h.get? p.1=some (PySem.W.tabObj #[])/\(K w.params).lookup p.1=none/\∃ c,PySem.W.CodeHd h c p.1) (hnd:(ts.map (·.1)).Nodup)
  (F:∀ (w:World) (mg:Str->Option Value) (fa:Addr) (h:Heap),(K w.params).In h->h.Ns mainGlobals mg->mg d.name=some (.ref fa) ->
   ∃ fd:FuncData,(∀ (s:Shared) (u:Value),BindsTo s fd ⟨[u],[]⟩ [(x,u)]) /\
    ∀ base:Heap,(K w.params).In base->base.Ns mainGlobals mg->(∀ p∈ts,base.BuiltinsAt mg p.1)->FnOk l.prog w (K w.params) mg base (CX w) k fa fd [x] (sp w))
  (hsp:∀ (w:World) (H:Hp) (a:Addr) (ns:List Int),ns.length<=n->yQ ts H->SqL (K w.params) H a (ns.map V.int)->sp w [.ref a] H (fun v H'=>v=.bl true/\∀ p∈ts,H' p.1=some (.tab p.2)) fun _ _ _=>False)
  (hCX:∀ (w:World) (H:Hp) (s:Shared) (e:Value) (s':Shared),CX w [] H s (fun _ _ _=>False) e s'->False) :
  PySem.W.WalkO q loose XP YP l.row.toRowW d [] (fun f vs=>PySem.call f vs):=by
 refine Att.attach_call hn hdf fun w s₀ s₁ mg mb fa o pm cd doc a vs ns G Y ho hd hcd hmg hobj hints hlen hg=>?_
 have KX:=hY w _ Y
 obtain ⟨fd,hb,hF⟩:=F w mg fa _ KX G.T.g hmg
 exact wU KX G.T.g G.T.b G.T.builtins G.T.nolimit (let ⟨mm,h1,_⟩:=(G.T.seer hq).mods; ⟨mm,h1⟩) hg G.T.bmain (hts w _ Y) hnd hobj hints (Ja hlen hn2) hr hF hb (fun H hO hS=>hsp w H a ns hlen hO hS) fun H e s'=>hCX w H s₁ e s'
section
variable {P:Program} {w:World} {K:PySem.W.Frag} {mg:Str->Option Value} {base:Heap}
theorem Fun.okC {x qual:Str} {st:Stmt} {f c:Addr} {fd:FuncData} {N ps:List Str} {k:Nat} {sp:Sp} (F:Fun K x qual st f fd) (hc:fd.code=.ref c) (S:FnScope N ps (aI st)) (len:∀ vs H Q E,sp vs H Q E->vs.length=ps.length)
  (hbody:∀ (A:Around) (outer:List Env) (s:Shared) (H:Hp) (vs:List V) (Q:VK) (E:XK),Room k (A.deeper (envOfC qual (aI st) s.heap.objs.size f (.ref c)))->sp vs H Q E ->
   ∃ t,PSs (uB CX0 P w K mg base N qual (aI st) f (.ref c) A outer s H E).nox (cU st) t/\t { nx:=fun _ H'=>Q .non H',rt:=Q } (jI N vs) H):FnOk P w K mg base CX0 (k+1) f fd ps sp:=by
 obtain ⟨oc,od,kV,doc,pm,an,cdv,ct,osl,rfl,lk,hcd⟩:=F.ex
 have e:cdv=.ref c:=hc
 subst e
 refine aA4 lk hcd S len fun A outer s H vs Q E hr hsp=>?_
 obtain ⟨t,h,q⟩:=hbody A outer s H vs Q E hr hsp
 exact ⟨t,h.nox,q⟩
end
abbrev cS (h:Heap) (z TI TO:Addr) (f0:Value) (f1:Bool):Prop :=
 h.get? z=some { cls:=.type "zip",dict:=none,data:=.fields #[f0,.bool f1,.bool false,.ref TI,.ref TO],slots:=#[] }
def F0 (f:Value):Prop:=f=.none∨∃ a t,f=.int a t
theorem sO {M:Model} {A:Around} {E:Value->Shared->Prop} {s:Shared} {a:Addr} {Q:Option Obj->Shared->Prop} (h:Q (s.heap.get? a) s):wpAny M A (loadIfAlive a) Q E s:=fun Γ p _=>by
 show Sem.wp M Γ (.loadIfAlive a .pure) _ _ p s
 rw [Sem.wp_loadIfAlive]
 exact (Sem.wp_pure ..).mpr h
section
variable {prog:Program} {w:World} {A:Around} {E:Value->Shared->Prop} {s:Shared} {z TI TO i1 i2 l1 l2:Addr} {n1 n2:Nat} {P1 P2:Nat->Value->Prop} {st1 st2:Nat->Heap->Prop}
theorem yS {f0:Value} {f1:Bool} {Q:Bool->Shared->Prop} (hz:cS s.heap z TI TO f0 f1) (hf:F0 f0) (h1:Q true s) (h2:∀ h' b,cS h' z TI TO f0 b->Heap.SameBut z s.heap h'->Q false { s with heap:=h' }) :
  wpAny (model prog w) A (Builtin.SmallTypes.ownedTupleIsFree (.ref z)) Q E s:=by
 unfold Builtin.SmallTypes.ownedTupleIsFree
 rcases hf with rfl | ⟨a,t,rfl⟩
 ·exact wpAny_bind (wpAny_field hz rfl (x:=.none) rfl (wpAny_pure h1))
 ·refine wpAny_bind (wpAny_field hz rfl (x:=.int a t) rfl ?_)
  show wpAny (model prog w) A (loadIfAlive a.toNat >>= _) Q E s
  refine wpAny_bind (sO ?_)
  cases hq:s.heap.get? a.toNat with
  | none=>exact wpAny_pure h1
  | some o =>
   show wpAny (model prog w) A (field (.ref z) 1 >>= _) Q E s
   refine wpAny_bind (wpAny_field hz rfl (x:=.bool f1) rfl ?_)
   cases f1 with
   | true=>exact wpAny_pure (h2 s.heap true hz (Heap.SameBut.refl _ _))
   | false =>
    show wpAny (model prog w) A (setField (.ref z) 1 (.bool true) >>= _) Q E s
    refine wpAny_bind (wpAny_setField_rec hz (by simp) fun g hg b=>wpAny_pure (h2 g true hg b))
theorem yT {k:Nat} {a b f0:Value} {f1:Bool} {Q:Value->Shared->Prop} (D:ZipApart z TI TO i1 i2 l1 l2) (S1:Sub prog w i1 l1 n1 P1 st1) (S2:Sub prog w i2 l2 n2 P2 st2)
  (hz:cS s.heap z TI TO f0 f1) (hf:F0 f0) (hTI:IsPair s.heap TI (.ref i1) (.ref i2)) (hTO:IsPair s.heap TO a b) (h1:st1 k s.heap) (h2:st2 k s.heap) (k1:k < n1) (k2:k < n2)
  (hQ:∀ h' x y f0' f1',P1 k x->P2 k y->F0 f0'->cS h' z TI TO f0' f1'->(∃ a b,IsPair h' TO a b)->st1 (k+1) h'->st2 (k+1) h'->IsPair h' s.heap.objs.size x y->h'.objs.size=s.heap.objs.size+1 ->
   (∀ c o,c≠z->c≠TO->c≠i1->c≠i2->s.heap.get? c=some o->h'.get? c=some o)->Q (.ref s.heap.objs.size) { s with heap:=h' }) :
  wpAny (model prog w) A (Builtin.«zip.__next__» ⟨[.ref z],[]⟩) (fun fin s'=>∃ v,fin=.done (.ret v)/\Q v s') E s:=by
 refine wpAny_bind (m:=field (.ref z) 2) (wpAny_field hz rfl (x:=.bool false) rfl ?_)
 refine wpAny_bind (m:=field (.ref z) 3) (wpAny_field hz rfl (x:=.ref TI) rfl ?_)
 refine wpAny_bind (wpAny_seqItems hTI rfl ?_)
 refine wpAny_bind (m:=Builtin.SmallTypes.ownedTupleIsFree (.ref z)) (yS hz hf ?_ fun h0 fb hz0 b0=>?_)
 ·simp only [if_true]
  refine wpAny_bind (wpAny_rule ?_)
  refine wpAny_bind (wpAny_field hz rfl (x:=.ref TO) rfl ?_)
  refine wpAny_bind (wpAny_setField_rec hz (by simp) fun g1 hz1 b1=>?_)
  have hz1':cS g1 z TI TO .ellipsis f1:=hz1
  refine wpAny_bind ?_
  simp only [List.zipIdx_cons,List.zipIdx_nil,Yd,Wa]
  have s1:st1 k g1:=S1.keep _ _ _ h1 fun c hc o e=>b1.extBut c o (by rcases hc with r | r <;> rw [r]; exact D.i1z; exact D.l1z) e
  refine wpAny_bind (wpAny_bind (wpAny_onRaise ?_))
  refine wpAny_bind (m:=Builtin.SmallTypes.nextOf (.ref i1)) (S1.item _ k _ _ _ k1 s1 fun x g2 px t1 b2=>wpAny_pure ?_)
  have o2:IsPair g2 TO a b:=b2.extBut _ _ D.TOi1 (b1.extBut _ _ D.TOz hTO)
  refine wpAny_bind (wpAny_seqItems o2 rfl ?_)
  refine wpAny_bind (wpAny_updateSeq_pair o2 fun g3 o3 b3=>?_)
  have o3':IsPair g3 TO x b:=o3
  refine wpAny_bind (wpAny_letGo (wpAny_pure ?_))
  have s2:st2 k g3:=S2.keep _ _ _ h2 fun c hc o e=>by
   rcases hc with r | r
   ·rw [r] at e ⊢; exact b3.extBut _ _ D.TOi2.symm (b2.extBut _ _ D.i12.symm (b1.extBut _ _ D.i2z e))
   ·rw [r] at e ⊢; exact b3.extBut _ _ D.l2TO (b2.extBut _ _ D.l2i1 (b1.extBut _ _ D.l2z e))
  refine wpAny_bind (wpAny_bind (wpAny_onRaise ?_))
  refine wpAny_bind (m:=Builtin.SmallTypes.nextOf (.ref i2)) (S2.item _ k _ _ _ k2 s2 fun y g4 py t2 b4=>wpAny_pure ?_)
  have o4:IsPair g4 TO x b:=b4.extBut _ _ D.TOi2 o3'
  refine wpAny_bind (wpAny_seqItems o4 rfl ?_)
  refine wpAny_bind (wpAny_updateSeq_pair o4 fun g5 o5 b5=>?_)
  have o5':IsPair g5 TO x y:=o5
  refine wpAny_bind (wpAny_letGo (wpAny_pure (wpAny_pure ?_)))
  refine wpAny_bind (wpAny_seqItems o5' rfl ?_)
  refine wpAny_bind (wpAny_newTuple ?_)
  have sz:g5.objs.size=s.heap.objs.size:=by rw [b5.1,b4.1,b3.1,b2.1,b1.1]
  have z5:cS g5 z TI TO .ellipsis f1:=b5.extBut _ _ D.TOz.symm (b4.extBut _ _ D.i2z.symm (b3.extBut _ _ D.TOz.symm (b2.extBut _ _ D.i1z.symm hz1')))
  have kp5:∀ c o,c≠z->c≠TO->c≠i1->c≠i2->s.heap.get? c=some o->g5.get? c=some o:=fun c o c1 c2 c3 c4 e =>
   b5.extBut _ _ c2 (b4.extBut _ _ c4 (b3.extBut _ _ c2 (b2.extBut _ _ c3 (b1.extBut _ _ c1 e))))
  have t1':st1 (k+1) g5:=S1.keep _ _ _ t1 fun c hc o e=>by
   rcases hc with r | r
   ·rw [r] at e ⊢; exact b5.extBut _ _ D.TOi1.symm (b4.extBut _ _ D.i12 (b3.extBut _ _ D.TOi1.symm e))
   ·rw [r] at e ⊢; exact b5.extBut _ _ D.l1TO (b4.extBut _ _ D.l1i2 (b3.extBut _ _ D.l1TO e))
  have t2':st2 (k+1) g5:=S2.keep _ _ _ t2 fun c hc o e=>by
   rcases hc with r | r
   ·rw [r] at e ⊢; exact b5.extBut _ _ D.TOi2.symm e
   ·rw [r] at e ⊢; exact b5.extBut _ _ D.l2TO e
  have zlt:g5.objs.size≠z:=Yk (Qk z5)
  refine wpAny_bind (m:=Builtin.SmallTypes.ownedTupleHandOut (.ref z) (.ref g5.objs.size)) ?_
  unfold Builtin.SmallTypes.ownedTupleHandOut
  have z6:cS (g5.push { cls:=.type "tuple",data:=.seq #[x,y] }) z TI TO .ellipsis f1:=Qc _ z5
  refine wpAny_bind (wpAny_setField_rec z6 (by simp) fun g7 z7 b7=>?_)
  have z7':cS g7 z TI TO (rawInt g5.objs.size) f1:=z7
  refine wpAny_setField_rec z7' (by simp) fun g8 z8 b8=>?_
  have z8':cS g8 z TI TO (rawInt g5.objs.size) false:=z8
  have up:∀ c o,c≠z->g5.get? c=some o->g8.get? c=some o:=fun c o c1 e=>b8.extBut _ _ c1 (b7.extBut _ _ c1 (Qc _ e))
  have T8:IsPair g8 g5.objs.size x y:=b8.extBut _ _ zlt (b7.extBut _ _ zlt (Ql _ rfl))
  have sz8:g8.objs.size=s.heap.objs.size+1:=by rw [b8.1,b7.1,Xa,sz]
  rw [sz] at z8' T8
  refine wpAny_pure ⟨_,rfl,?_⟩
  show Q (.ref g5.objs.size) _
  rw [sz]
  refine hQ g8 x y _ _ px py (.inr ⟨_,_,rfl⟩) z8' ⟨_,_,up _ _ D.TOz o5'⟩ (S1.keep _ _ _ t1' fun c hc o e=>up c o (by rcases hc with r | r <;> rw [r]; exact D.i1z; exact D.l1z) e) (S2.keep _ _ _ t2' fun c hc o e=>up c o (by rcases hc with r | r <;> rw [r]; exact D.i2z; exact D.l2z) e) T8 sz8 fun c o c1 c2 c3 c4 e=>up c o c1 (kp5 c o c1 c2 c3 c4 e)
 ·simp only [Ye,if_false]
  have s1:st1 k h0:=S1.keep _ _ _ h1 fun c hc o e=>b0.extBut c o (by rcases hc with r | r <;> rw [r]; exact D.i1z; exact D.l1z) e
  rw [<- Array.forIn_toList]
  simp only [Yd,Wa]
  refine wpAny_bind (wpAny_bind (wpAny_bind (wpAny_holding ?_)))
  refine wpAny_bind (m:=Builtin.SmallTypes.nextOf (.ref i1)) (S1.item _ k _ _ _ k1 s1 fun x g2 px t1 b2=>wpAny_pure ?_)
  refine wpAny_pure ?_
  have s2:st2 k g2:=S2.keep _ _ _ h2 fun c hc o e=>by
   rcases hc with r | r
   ·rw [r] at e ⊢; exact b2.extBut _ _ D.i12.symm (b0.extBut _ _ D.i2z e)
   ·rw [r] at e ⊢; exact b2.extBut _ _ D.l2i1 (b0.extBut _ _ D.l2z e)
  refine wpAny_bind (wpAny_bind (wpAny_holding ?_))
  refine wpAny_bind (m:=Builtin.SmallTypes.nextOf (.ref i2)) (S2.item _ k _ _ _ k2 s2 fun y g4 py t2 b4=>wpAny_pure ?_)
  refine wpAny_pure (wpAny_pure ?_)
  refine wpAny_bind (wpAny_newTuple ?_ (by show 2<=sizeLine; rw [sizeLine_eq]; decide))
  have sz:g4.objs.size=s.heap.objs.size:=by rw [b4.1,b2.1,b0.1]
  have z4:cS g4 z TI TO f0 fb:=b4.extBut _ _ D.i2z.symm (b2.extBut _ _ D.i1z.symm hz0)
  have kp4:∀ c o,c≠z->c≠i1->c≠i2->s.heap.get? c=some o->g4.get? c=some o:=fun c o c1 c3 c4 e=>b4.extBut _ _ c4 (b2.extBut _ _ c3 (b0.extBut _ _ c1 e))
  have t1':st1 (k+1) g4:=S1.keep _ _ _ t1 fun c hc o e=>by
   rcases hc with r | r
   ·rw [r] at e ⊢; exact b4.extBut _ _ D.i12 e
   ·rw [r] at e ⊢; exact b4.extBut _ _ D.l1i2 e
  refine wpAny_pure ⟨_,rfl,?_⟩
  show Q (.ref g4.objs.size) _
  have T8:IsPair (g4.push { cls:=.type "tuple",data:=.seq #[x,y] }) g4.objs.size x y:=Ql _ rfl
  rw [sz] at T8 ⊢
  refine hQ _ x y _ _ px py hf (Qc _ z4) ⟨_,_,Qc _ (kp4 _ _ D.TOz D.TOi1 D.TOi2 hTO)⟩ (S1.keep _ _ _ t1' fun c hc o e=>Qc _ e) (S2.keep _ _ _ t2 fun c hc o e=>Qc _ e) T8 (by rw [Xa,sz]) fun c o c1 c2 c3 c4 e=>Qc _ (kp4 c o c1 c3 c4 e)
theorem aAH {k:Nat} {a b f0:Value} {f1:Bool} {Q:Fin->Shared->Prop} (hh:A.handled=none) (D:ZipApart z TI TO i1 i2 l1 l2) (S1:Sub prog w i1 l1 n1 P1 st1) (S2:Sub prog w i2 l2 n2 P2 st2)
  (hz:cS s.heap z TI TO f0 f1) (hf:F0 f0) (hTI:IsPair s.heap TI (.ref i1) (.ref i2)) (hTO:IsPair s.heap TO a b) (h1:st1 k s.heap) (h2:st2 k s.heap) (hend:k=n1/\k<=n2∨k=n2/\k < n1)
  (hE:∀ h' e,(∀ c o,c≠z->c≠TO->c≠i1->c≠i2->s.heap.get? c=some o->h'.get? c=some o)->(∃ o,h'.get? e=some o/\o.cls=.type "StopIteration")->E (.ref e) { s with heap:=h' }) :
  wpAny (model prog w) A (Builtin.«zip.__next__» ⟨[.ref z],[]⟩) Q E s:=by
 refine wpAny_bind (m:=field (.ref z) 2) (wpAny_field hz rfl (x:=.bool false) rfl ?_)
 refine wpAny_bind (m:=field (.ref z) 3) (wpAny_field hz rfl (x:=.ref TI) rfl ?_)
 refine wpAny_bind (wpAny_seqItems hTI rfl ?_)
 refine wpAny_bind (m:=Builtin.SmallTypes.ownedTupleIsFree (.ref z)) (yS hz hf ?_ fun h0 fb hz0 b0=>?_)
 ·simp only [if_true]
  refine wpAny_bind (wpAny_rule ?_)
  refine wpAny_bind (wpAny_field hz rfl (x:=.ref TO) rfl ?_)
  refine wpAny_bind (wpAny_setField_rec hz (by simp) fun g1 hz1 b1=>?_)
  have hz1':cS g1 z TI TO .ellipsis f1:=hz1
  refine wpAny_bind ?_
  simp only [List.zipIdx_cons,List.zipIdx_nil,Yd,Wa]
  have s1:st1 k g1:=S1.keep _ _ _ h1 fun c hc o e=>b1.extBut c o (by rcases hc with r | r <;> rw [r]; exact D.i1z; exact D.l1z) e
  refine wpAny_bind (wpAny_bind (wpAny_onRaise ?_))
  have fin:∀ (g:Heap) (e:Addr) (g0:Heap),(∃ o,g.get? e=some o/\o.cls=.type "StopIteration")->cS g z TI TO .ellipsis f1->(∀ c o,c≠z->c≠TO->c≠i1->c≠i2->s.heap.get? c=some o->g.get? c=some o) ->
    wpAny (model prog w) A (setField (.ref z) 0 .none) (fun _ s'=>E (.ref e) s') E { s with heap:=g }:=fun g e g0 ⟨oe,hoe,hce⟩ hzz kp=>by
   have hez:e≠z:=fun q=>by rw [q,hzz] at hoe; cases hoe; simp at hce
   exact wpAny_setField_rec hzz (by simp) fun g' _ b'=>hE g' e (fun c o c1 c2 c3 c4 q=>b'.extBut _ _ c1 (kp c o c1 c2 c3 c4 q)) ⟨oe,b'.extBut _ _ hez hoe,hce⟩
  rcases hend with ⟨e1,_⟩ | ⟨e2,k1⟩
  ·rw [e1] at s1
   refine wpAny_bind (m:=Builtin.SmallTypes.nextOf (.ref i1)) (S1.done _ _ _ _ hh s1 fun g2 e b2 he=>?_)
   exact fin g2 e g1 he (b2 _ _ D.i1z.symm hz1') fun c o c1 _ c3 _ q=>b2 _ _ c3 (b1.extBut _ _ c1 q)
  ·refine wpAny_bind (m:=Builtin.SmallTypes.nextOf (.ref i1)) (S1.item _ k _ _ _ k1 s1 fun x g2 px t1 b2=>wpAny_pure ?_)
   have o2:IsPair g2 TO a b:=b2.extBut _ _ D.TOi1 (b1.extBut _ _ D.TOz hTO)
   refine wpAny_bind (wpAny_seqItems o2 rfl ?_)
   refine wpAny_bind (wpAny_updateSeq_pair o2 fun g3 o3 b3=>?_)
   refine wpAny_bind (wpAny_letGo (wpAny_pure ?_))
   have s2:st2 n2 g3:=by
    rw [<- e2]
    exact S2.keep _ _ _ h2 fun c hc o e=>by
     rcases hc with r | r
     ·rw [r] at e ⊢; exact b3.extBut _ _ D.TOi2.symm (b2.extBut _ _ D.i12.symm (b1.extBut _ _ D.i2z e))
     ·rw [r] at e ⊢; exact b3.extBut _ _ D.l2TO (b2.extBut _ _ D.l2i1 (b1.extBut _ _ D.l2z e))
   refine wpAny_bind (wpAny_bind (wpAny_onRaise ?_))
   refine wpAny_bind (m:=Builtin.SmallTypes.nextOf (.ref i2)) (S2.done _ _ _ _ hh s2 fun g4 e b4 he=>?_)
   exact fin g4 e g3 he (b4 _ _ D.i2z.symm (b3.extBut _ _ D.TOz.symm (b2.extBut _ _ D.i1z.symm hz1'))) fun c o c1 c2 c3 c4 q=>b4 _ _ c4 (b3.extBut _ _ c2 (b2.extBut _ _ c3 (b1.extBut _ _ c1 q)))
 ·simp only [Ye,if_false]
  have s1:st1 k h0:=S1.keep _ _ _ h1 fun c hc o e=>b0.extBut c o (by rcases hc with r | r <;> rw [r]; exact D.i1z; exact D.l1z) e
  rw [<- Array.forIn_toList]
  simp only [Yd,Wa]
  refine wpAny_bind (wpAny_bind (wpAny_bind (wpAny_holding ?_)))
  rcases hend with ⟨e1,_⟩ | ⟨e2,k1⟩
  ·rw [e1] at s1
   refine wpAny_bind (m:=Builtin.SmallTypes.nextOf (.ref i1)) (S1.done _ _ _ _ hh s1 fun g2 e b2 he=>?_)
   exact hE g2 e (fun c o c1 _ c3 _ q=>b2 _ _ c3 (b0.extBut _ _ c1 q)) he
  ·refine wpAny_bind (m:=Builtin.SmallTypes.nextOf (.ref i1)) (S1.item _ k _ _ _ k1 s1 fun x g2 px t1 b2=>wpAny_pure ?_)
   refine wpAny_pure ?_
   have s2:st2 n2 g2:=by
    rw [<- e2]
    exact S2.keep _ _ _ h2 fun c hc o e=>by
     rcases hc with r | r
     ·rw [r] at e ⊢; exact b2.extBut _ _ D.i12.symm (b0.extBut _ _ D.i2z e)
     ·rw [r] at e ⊢; exact b2.extBut _ _ D.l2i1 (b0.extBut _ _ D.l2z e)
   refine wpAny_bind (wpAny_bind (wpAny_holding ?_))
   refine wpAny_bind (m:=Builtin.SmallTypes.nextOf (.ref i2)) (S2.done _ _ _ _ hh s2 fun g4 e b4 he=>?_)
   exact hE g4 e (fun c o c1 c2 c3 c4 q=>b4 _ _ c4 (b2.extBut _ _ c3 (b0.extBut _ _ c1 q))) he
structure ZipSt (h:Heap) (z TI TO i1 i2:Addr):Prop where
 hz:∃ f0 f1,F0 f0/\cS h z TI TO f0 f1
 ti:IsPair h TI (.ref i1) (.ref i2)
 to:∃ a b,IsPair h TO a b
theorem sP {e:Addr} {i:Nat} {old:Value} {Q:Value->Shared->Prop} (D:ZipApart z TI TO i1 i2 l1 l2) (S1:Sub prog w i1 l1 n1 P1 st1) (S2:Sub prog w i2 l2 n2 P2 st2) (he:IsEnum s.heap e z i old) (Z:ZipSt s.heap z TI TO i1 i2)
  (h1:st1 i s.heap) (h2:st2 i s.heap) (k1:i < n1) (k2:i < n2) (ne:e≠z/\e≠TI/\e≠TO/\e≠i1/\e≠i2/\e≠l1/\e≠l2)
  (hQ:∀ h' x y tk,P1 i x->P2 i y->IsEnumOut h' e z ((i:Int)+1) (.ref s.heap.objs.size) (s.heap.objs.size+1)->ZipSt h' z TI TO i1 i2->st1 (i+1) h'->st2 (i+1) h'->IsPair h' s.heap.objs.size x y ->
   h'.get? (s.heap.objs.size+1)=some { cls:=.type "tuple",data:=.seq #[.int i tk,.ref s.heap.objs.size] } ->
   (∀ c o,c≠e->c≠z->c≠TO->c≠i1->c≠i2->s.heap.get? c=some o->h'.get? c=some o)->Q (.ref (s.heap.objs.size+1)) { s with heap:=h',toks:=s.toks+1 }) :
  wpAny (model prog w) A (Builtin.«enumerate.__next__» ⟨[.ref e],[]⟩) (fun fin s'=>∃ v,fin=.done (.ret v)/\Q v s') E s:=by
 obtain ⟨⟨f0,f1,hf,hz⟩,hTI,⟨a,b,hTO⟩⟩:=Z
 obtain ⟨ne1,ne2,ne3,ne4,ne5,ne6,ne7⟩:=ne
 have hTz:s.TypeIs (.ref z) "zip" := ⟨_,hz,rfl⟩
 refine wpAny_bind (m:=field (.ref e) 2) (wpAny_field he rfl (x:=.ref z) rfl ?_)
 refine wpAny_bind (m:=Builtin.SmallTypes.nextOf (.ref z)) ?_
 unfold Builtin.SmallTypes.nextOf
 refine wpAny_bind (wpAny_callSpecial?_slot (name:=Str.ofString "__next__") hTz PySem.F.slot_zip_next (wpAny_call_entry PySem.F.slot_zip_next hTz PySem.F.entry_zip_next
  (yT D S1 S2 hz hf hTI hTO h1 h2 k1 k2 fun g1 x y f0' f1' px py hf' hz' hTO' t1 t2 hp hsz kp=>?_) (PySem.F.args_zip_next_1 _)))
 refine wpAny_pure ?_
 have e1:IsEnum g1 e z i old:=kp _ _ ne1 ne3 ne4 ne5 he
 refine wpAny_bind (m:=field (.ref e) 3) (wpAny_field e1 rfl (x:=rawInt i) rfl ?_)
 refine wpAny_bind (m:=field (.ref e) 4) (wpAny_field e1 rfl (x:=.none) rfl ?_)
 refine wpAny_bind (m:=mkInt i) (wpAny_mkInt ?_)
 refine wpAny_bind (m:=setField (.ref e) 3 (rawInt ((i:Int)+1))) (wpAny_setField_rec e1 (by simp) fun g2 e2 b2=>?_)
 have e2':IsEnum g2 e z ((i:Int)+1) old:=e2
 refine wpAny_bind (m:=setField (.ref e) 4 .none) (wpAny_setField_rec e2' (by simp) fun g3 e3 b3=>?_)
 have e3':IsEnum g3 e z ((i:Int)+1) old:=e3
 refine wpAny_bind (m:=newTuple [.int i s.toks,.ref s.heap.objs.size]) (wpAny_newTuple ?_)
 have sz:g3.objs.size=s.heap.objs.size+1:=by rw [b3.1,b2.1,hsz]
 have e4:IsEnum (g3.push { cls:=.type "tuple",data:=.seq #[.int i s.toks,.ref s.heap.objs.size] }) e z ((i:Int)+1) old:=Qc _ e3'
 have T4:(g3.push { cls:=.type "tuple",data:=.seq #[.int i s.toks,.ref s.heap.objs.size] }).get? (s.heap.objs.size+1)=some { cls:=.type "tuple",data:=.seq #[.int i s.toks,.ref s.heap.objs.size] }:=by rw [<- sz]; exact Ql _ rfl
 have up4:∀ c o,c≠e->g1.get? c=some o->(g3.push { cls:=.type "tuple",data:=.seq #[.int i s.toks,.ref s.heap.objs.size] }).get? c=some o:=fun c o c1 q=>Qc _ (b3.extBut _ _ c1 (b2.extBut _ _ c1 q))
 have elt:s.heap.objs.size+1≠e:=Yk (Xt (Qk he))
 have elt0:s.heap.objs.size≠e:=Yk (Qk he)
 rw [sz]
 generalize g3.push { cls:=.type "tuple",data:=.seq #[.int i s.toks,.ref s.heap.objs.size] }=g4 at e4 T4 up4 ⊢
 refine wpAny_bind (m:=Builtin.SmallTypes.ownedTupleIsFree (.ref e)) ?_
 unfold Builtin.SmallTypes.ownedTupleIsFree
 refine wpAny_bind (wpAny_field e4 rfl (x:=.none) rfl (wpAny_pure ?_))
 simp only [if_true]
 refine wpAny_bind (wpAny_rule ?_)
 refine wpAny_bind (wpAny_field e4 rfl (x:=old) rfl ?_)
 refine wpAny_bind (wpAny_setField_rec e4 (by simp) fun g5 e5 b5=>?_)
 have e5':IsEnum g5 e z ((i:Int)+1) (.ref s.heap.objs.size):=e5
 refine wpAny_bind (m:=Builtin.SmallTypes.ownedTupleHandOut (.ref e) (.ref (s.heap.objs.size+1))) ?_
 unfold Builtin.SmallTypes.ownedTupleHandOut
 refine wpAny_bind (wpAny_setField_rec e5' (by simp) fun g6 e6 b6=>?_)
 have e6':IsEnumOut g6 e z ((i:Int)+1) (.ref s.heap.objs.size) (s.heap.objs.size+1):=e6
 refine wpAny_setField_rec e6' (by simp) fun g7 e7 b7=>?_
 have e7':IsEnumOut g7 e z ((i:Int)+1) (.ref s.heap.objs.size) (s.heap.objs.size+1):=e7
 have up:∀ c o,c≠e->g4.get? c=some o->g7.get? c=some o:=fun c o c1 q=>b7.extBut _ _ c1 (b6.extBut _ _ c1 (b5.extBut _ _ c1 q))
 have all:∀ c o,c≠e->g1.get? c=some o->g7.get? c=some o:=fun c o c1 q=>up c o c1 (up4 c o c1 q)
 obtain ⟨a',b',hTO'⟩:=hTO'
 refine wpAny_bind (wpAny_letGo (wpAny_pure ⟨_,rfl,hQ g7 x y s.toks px py e7' ⟨⟨_,_,hf',all _ _ ne1.symm hz'⟩,all _ _ ne2.symm (kp _ _ D.TIz D.TITO D.TIi1 D.TIi2 hTI),⟨_,_,all _ _ ne3.symm hTO'⟩⟩ (S1.keep _ _ _ t1 fun c hc o q=>all c o ?_ q) (S2.keep _ _ _ t2 fun c hc o q=>all c o ?_ q) (all _ _ elt0 hp) (up _ _ elt T4) fun c o c0 c1 c2 c3 c4 q=>all c o c0 (kp c o c1 c2 c3 c4 q)⟩))
 ·rcases hc with r | r <;> rw [r]
  ·exact ne4.symm
  ·exact ne6.symm
 ·rcases hc with r | r <;> rw [r]
  ·exact ne5.symm
  ·exact ne7.symm
theorem uJ {e:Addr} {i:Nat} {old:Value} {Q:Fin->Shared->Prop} (hh:A.handled=none) (D:ZipApart z TI TO i1 i2 l1 l2) (S1:Sub prog w i1 l1 n1 P1 st1) (S2:Sub prog w i2 l2 n2 P2 st2) (he:IsEnum s.heap e z i old) (Z:ZipSt s.heap z TI TO i1 i2)
  (h1:st1 i s.heap) (h2:st2 i s.heap) (hend:i=n1/\i<=n2∨i=n2/\i < n1)
  (hE:∀ h' x,(∀ c o,c≠z->c≠TO->c≠i1->c≠i2->s.heap.get? c=some o->h'.get? c=some o)->(∃ o,h'.get? x=some o/\o.cls=.type "StopIteration")->E (.ref x) { s with heap:=h' }) :
  wpAny (model prog w) A (Builtin.«enumerate.__next__» ⟨[.ref e],[]⟩) Q E s:=by
 obtain ⟨⟨f0,f1,hf,hz⟩,hTI,⟨a,b,hTO⟩⟩:=Z
 have hTz:s.TypeIs (.ref z) "zip" := ⟨_,hz,rfl⟩
 refine wpAny_bind (m:=field (.ref e) 2) (wpAny_field he rfl (x:=.ref z) rfl ?_)
 refine wpAny_bind (m:=Builtin.SmallTypes.nextOf (.ref z)) ?_
 unfold Builtin.SmallTypes.nextOf
 exact wpAny_bind (wpAny_callSpecial?_slot (name:=Str.ofString "__next__") hTz PySem.F.slot_zip_next (wpAny_call_entry PySem.F.slot_zip_next hTz PySem.F.entry_zip_next
  (aAH hh D S1 S2 hz hf hTI hTO h1 h2 hend fun h' x kp hx=>hE h' x kp hx) (PySem.F.args_zip_next_1 _)))
end
def yU (K:PySem.W.Frag) (k1 k2:Sk) (a b:Addr):It :=
 ⟨fun i H => ∃ xs ys x y, SqK k1 K H a xs /\ SqK k2 K H b ys /\ xs[i]? = some x /\ ys[i]? = some y,
  fun i H v H'=>∃ p q,H p=none/\H q=none/\q≠p/\v=.ref q/\∀ xs ys,SqK k1 K H a xs->SqK k2 K H b ys->∃ x y,xs[i]?=some x/\ys[i]?=some y/\H'=upd (upd H p (.tup [x,y])) q (.tup [.int (i:Nat),.ref p]),
  fun i H=>∃ xs ys,SqK k1 K H a xs/\SqK k2 K H b ys/\min xs.length ys.length=i⟩
theorem qR {P:Program} {w:World} {K:PySem.W.Frag} {es:List Expr} {x1} {pos:Pos} (k1 k2:Sk) (a b e z TI TO i1 i2:Addr) (D:∀ l1 l2:Addr,(∀ c∈[e,z,TI,TO,i1,i2],l1≠c)->(∀ c∈[e,z,TI,TO,i1,i2],l2≠c)->ZipApart z TI TO i1 i2 l1 l2)
  (ne:e≠z/\e≠TI/\e≠TO/\e≠i1/\e≠i2) :
  Turn P w K (.Tuple es x1 pos) (yU K k1 k2 a b) [e,z,TI,TO,i1,i2] e (fun i h=>(∃ old,IsEnum h e z i old)/\ZipSt h z TI TO i1 i2/\ItK k1 h i1 a i/\ItK k2 h i2 b i) where
 mem:=by simp
 obj:=fun i h st c hc=>by
  obtain ⟨⟨old,he⟩,⟨⟨f0,f1,hf,hz⟩,hTI,⟨x,y,hTO⟩⟩,h1,h2⟩:=st
  simp only [Qs,Qy,or_false] at hc
  rcases hc with rfl | rfl | rfl | rfl | rfl | rfl
  ·exact ⟨_,he,fun v q=>by cases q⟩
  ·exact ⟨_,hz,fun v q=>by cases q⟩
  ·exact ⟨_,hTI,fun v q=>by cases q⟩
  ·exact ⟨_,hTO,fun v q=>by cases q⟩
  ·exact h1.obj
  ·exact h2.obj
 keep:=fun i h h' st k=>by
  obtain ⟨⟨old,he⟩,⟨⟨f0,f1,hf,hz⟩,hTI,⟨x,y,hTO⟩⟩,h1,h2⟩:=st
  exact ⟨⟨old,k e (by simp) _ he⟩,⟨⟨f0,f1,hf,k z (by simp) _ hz⟩,k TI (by simp) _ hTI,⟨x,y,k TO (by simp) _ hTO⟩⟩,h1.at fun o e=>k i1 (by simp) o e,h2.at fun o e=>k i2 (by simp) o e⟩
 item:=by
  intro X hP hw hK hc i pins s σ H E I hf st hg
  subst hP hw hK
  obtain ⟨⟨old,he⟩,Z,h1,h2⟩:=st
  obtain ⟨xs,ys,x,y,ha,hb,hx,hy⟩:=hg
  obtain ⟨its,rv,pa⟩:=I.seqK ha
  obtain ⟨jts,rw',pb⟩:=I.seqK hb
  obtain ⟨u,hu,ru⟩:=rv.get hx
  obtain ⟨v,hv,rv2⟩:=rw'.get hy
  have na:∀ c∈[e,z,TI,TO,i1,i2],a≠c:=fun c hc'=>I.seq_ne ha (hf c hc')
  have nb:∀ c∈[e,z,TI,TO,i1,i2],b≠c:=fun c hc'=>I.seq_ne hb (hf c hc')
  have DD:=D a b na nb
  have hT:s.TypeIs (.ref e) "enumerate" := ⟨_,he,rfl⟩
  have hi1:i < its.toArray.size:=by rw [Qp]; exact (Qa.mp hu).1
  have hi2:i < jts.toArray.size:=by rw [Qp]; exact (Qa.mp hv).1
  unfold pyNext
  refine wpAny_bind (wpAny_attempt (wpAny_callSpecial?_slot (name:=Str.ofString "__next__") hT PySem.F.slot_enumerate_next (wpAny_call_entry PySem.F.slot_enumerate_next hT PySem.F.entry_enumerate_next
   (sP DD (aAw k1 X.prog X.w i1 a its.toArray (na i1 (by simp))) (aAw k2 X.prog X.w i2 b jts.toArray (nb i2 (by simp))) he Z ⟨h1,pa⟩ ⟨h2,pb⟩ hi1 hi2
    ⟨ne.1,ne.2.1,ne.2.2.1,ne.2.2.2.1,ne.2.2.2.2,(na e (by simp)).symm,(nb e (by simp)).symm⟩ fun h' u' v' tk pu pv he' Z' s1 s2 hp1 hp2 kp=>wpAny_pure ?_) (PySem.F.args_enumerate_next_1 _))))
  have eu:u'=u:=by
   have q:its[i]?=some u':=by simpa using pu
   rw [hu] at q
   exact (Option.some.inj q).symm
  have ev:v'=v:=by
   have q:jts[i]?=some v':=by simpa using pv
   rw [hv] at q
   exact (Option.some.inj q).symm
  subst eu ev
  refine ⟨_,rfl,wpAny_letOwnedTupleGo_enum he' fun h2' he2 sb2=>?_⟩
  have T0:s.heap.objs.size≠e:=Yk (Qk he)
  have T1:s.heap.objs.size+1≠e:=Yk (Xt (Qk he))
  have hp1':IsPair h2' s.heap.objs.size u' v':=sb2.extBut _ _ T0 hp1
  have hp2':h2'.get? (s.heap.objs.size+1)=some { cls:=.type "tuple",data:=.seq #[.int i tk,.ref s.heap.objs.size] }:=sb2.extBut _ _ T1 hp2
  have hf0:=I.hok.fresh (Qi s.heap.objs.size)
  have hf1:=I.hok.fresh (Yt s.heap.objs.size)
  have fz:=I.fpOk (Qi s.heap.objs.size) hf0
  have fz1:=I.fpOk (Yt s.heap.objs.size) hf1
  have I2:Inv X pins σ H { s with heap:=h2',toks:=s.toks+1 }:=by
   refine I.turnedL (t':=s.toks+1) [e,z,TO,i1,i2] (fun c o hc' q=>?_) (fun c hc'=>hf c ?_)
   ·simp only [Qs,Qy,or_false,not_or] at hc'
    exact sb2.extBut _ _ hc'.1 (kp c o hc'.1 hc'.2.1 hc'.2.2.1 hc'.2.2.2.1 hc'.2.2.2.2 q)
   ·simp only [Qs,Qy,or_false] at hc' ⊢
    rcases hc' with r | r | r | r | r
    ·exact .inl r
    ·exact .inr (.inl r)
    ·exact .inr (.inr (.inr (.inl r)))
    ·exact .inr (.inr (.inr (.inr (.inl r))))
    ·exact .inr (.inr (.inr (.inr (.inr r))))
  have I3:Inv X pins σ (upd H s.heap.objs.size (.tup [x,y])) { s with heap:=h2',toks:=s.toks+1 }:=by
   refine I2.trackO (show bB X.prog X.w _ _ _ (.tup [x,y]) from ⟨by show 2<=sizeLine; rw [sizeLine_eq]; decide,[u',v'],0,.cons ru (.cons rv2 .nil),hp1'⟩) hf0 fz.2.1 I.sz fz.2.2.2.2.1 fz.2.2.2.2.2
  have nn:s.heap.objs.size+1≠s.heap.objs.size:=Nat.succ_ne_self _
  have I4:Inv X pins σ (upd (upd H s.heap.objs.size (.tup [x,y])) (s.heap.objs.size+1) (.tup [.int (i:Nat),.ref s.heap.objs.size])) { s with heap:=h2',toks:=s.toks+1 }:=by
   refine I3.trackO (show bB X.prog X.w _ _ _ (.tup [.int (i:Nat),.ref s.heap.objs.size]) from ⟨by show 2<=sizeLine; rw [sizeLine_eq]; decide,[.int i tk,.ref s.heap.objs.size],0,.cons ⟨tk,rfl⟩ (.cons rfl .nil),hp2'⟩) (by rw [aD nn]; exact hf1) fz1.2.1 (Ja I.sz (Yt _)) fz1.2.2.2.2.1 fz1.2.2.2.2.2
  obtain ⟨⟨g0,g1,hg,hz'⟩,hTI',⟨a',b',hTO'⟩⟩:=Z'
  refine ⟨.ref (s.heap.objs.size+1),_,I4,rfl,⟨s.heap.objs.size,s.heap.objs.size+1,hf0,hf1,nn,rfl,fun xs' ys' ha' hb'=>?_⟩,⟨⟨_,by simpa using he2⟩,⟨⟨g0,g1,hg,sb2.extBut _ _ ne.1.symm hz'⟩,sb2.extBut _ _ ne.2.1.symm hTI',⟨_,_,sb2.extBut _ _ ne.2.2.1.symm hTO'⟩⟩,s1.1.at fun o q=>sb2.extBut _ _ ne.2.2.2.1.symm q,s2.1.at fun o q=>sb2.extBut _ _ ne.2.2.2.2.symm q⟩,fun c hc'=>?_⟩
  ·rw [I.seqK_inj ha' ha,I.seqK_inj hb' hb]
   exact ⟨x,y,hx,hy,rfl⟩
  ·have cl:c < s.heap.objs.size:=by
    obtain ⟨o,q⟩:∃ o,s.heap.get? c=some o:=by
     obtain ⟨⟨f0,f1,hf',hz⟩,hTI,⟨x',y',hTO⟩⟩:=Z
     simp only [Qs,Qy,or_false] at hc'
     rcases hc' with rfl | rfl | rfl | rfl | rfl | rfl
     ·exact ⟨_,he⟩
     ·exact ⟨_,hz⟩
     ·exact ⟨_,hTI⟩
     ·exact ⟨_,hTO⟩
     ·obtain ⟨o,q,_⟩:=h1.obj; exact ⟨o,q⟩
     ·obtain ⟨o,q,_⟩:=h2.obj; exact ⟨o,q⟩
    exact Qk q
   rw [aD (Jd (Xt cl)),aD (Jd cl)]
   exact (hf c hc').1
 done:=by
  intro X hP hw hK hc i pins s σ H E I hf st hg
  subst hP hw hK
  obtain ⟨⟨old,he⟩,Z,h1,h2⟩:=st
  obtain ⟨xs,ys,ha,hb,hmin⟩:=hg
  obtain ⟨its,rv,pa⟩:=I.seqK ha
  obtain ⟨jts,rw',pb⟩:=I.seqK hb
  have la:=rv.length
  have lb:=rw'.length
  have na:∀ c∈[e,z,TI,TO,i1,i2],a≠c:=fun c hc'=>I.seq_ne ha (hf c hc')
  have nb:∀ c∈[e,z,TI,TO,i1,i2],b≠c:=fun c hc'=>I.seq_ne hb (hf c hc')
  have DD:=D a b na nb
  have hT:s.TypeIs (.ref e) "enumerate" := ⟨_,he,rfl⟩
  unfold pyNext
  refine wpAny_bind (wpAny_attempt (wpAny_callSpecial?_slot (name:=Str.ofString "__next__") hT PySem.F.slot_enumerate_next (wpAny_call_entry PySem.F.slot_enumerate_next hT PySem.F.entry_enumerate_next
   (uJ (I.ok.hd hc) DD (aAw k1 X.prog X.w i1 a its.toArray (na i1 (by simp))) (aAw k2 X.prog X.w i2 b jts.toArray (nb i2 (by simp))) he Z ⟨h1,pa⟩ ⟨h2,pb⟩ (by rw [Qp,Qp]; omega) fun h' x kp hx=>?_) (PySem.F.args_enumerate_next_1 _))))
  obtain ⟨oe,hoe,hce⟩:=hx
  refine wpAny_bind (wpAny_isInstance (T := "StopIteration") (b:=true) ⟨oe,hoe,hce⟩ isSubtype_stop (wpAny_pure ⟨rfl,?_⟩))
  refine I.turnedL (t':=s.toks) [z,TO,i1,i2] (fun c o hc' q=>?_) (fun c hc'=>hf c ?_)
  ·simp only [Qs,Qy,or_false,not_or] at hc'
   exact kp c o hc'.1 hc'.2.1 hc'.2.2.1 hc'.2.2.2 q
  ·simp only [Qs,Qy,or_false] at hc' ⊢
   rcases hc' with r | r | r | r
   ·exact .inr (.inl r)
   ·exact .inr (.inr (.inr (.inl r)))
   ·exact .inr (.inr (.inr (.inr (.inl r))))
   ·exact .inr (.inr (.inr (.inr (.inr r))))
 self:=fun _ _ _ _ _ st h=>by
  obtain ⟨⟨old,he⟩,_⟩:=st
  exact wpAny_pyIter_enum he h
theorem oR (z TI TO:Addr) :
  Meets (Builtin.«enumerate.__new__» ⟨[.type "enumerate",.ref z],[]⟩) (fun _ R s=>IsZip s.heap z TI TO .none /\
   R (.ok (.ret (.ref s.heap.objs.size))) { s with heap:=s.heap.push { cls:=.type "enumerate",data:=.fields #[.none,.bool false,.ref z,rawInt 0,.none,.none] } }) :=
 .of_wp fun prog w A R s h=>by
  obtain ⟨hp,g,d,tk,os⟩:=s
  obtain ⟨hl,h⟩:=h
  have hsub:=sub_enumerate
  have hZ:IsZip (Shared.heap ⟨hp,g,d,tk,os⟩) z TI TO .none:=hl
  wp_walk using AutoSeq1.wpAny_loadPart' hZ
  refine wpAny_stack_any fun st=>wpAny_pure ?_
  split
  ·rename_i c _ _ _ _ _
   cases (c==Value.type "enumerate")
   ·wp_walk using AutoSeq1.wpAny_loadPart' hZ,wpAny_pyIter_zip hZ
    exact ⟨_,rfl,h⟩
   ·wp_walk using AutoSeq1.wpAny_loadPart' hZ,wpAny_pyIter_zip hZ
    exact ⟨_,rfl,h⟩
  ·wp_walk using AutoSeq1.wpAny_loadPart' hZ,wpAny_pyIter_zip hZ
   exact ⟨_,rfl,h⟩
section
variable {X:Cx} {es:List Expr} {x1:Nat} {tpos:Pos}
def yV (K:PySem.W.Frag) (k1 k2:Sk) (ta:TA):TI:=fun σ H R=>ta σ H fun vs H1=>∃ a b xs ys,vs = [.ref a,.ref b]/\SqK k1 K H1 a xs/\SqK k2 K H1 b ys/\R (yU K k1 k2 a b) H1
theorem uK (k1 k2:Sk) {a b:Expr} {ta:TA} {p pos p' pos':Pos} (hg:Gl X "enumerate") (hm:X.mg "enumerate" = none) (hg2:Gl X "zip") (hm2:X.mg "zip" = none) (ha:PA X [a,b] ta)
  (hs:starEach [a,b] X.env = [(false,eval a X.env),(false,eval b X.env)]:=by rfl) (hs2:starEach [b] X.env = [(false,eval b X.env)]:=by rfl)
  (hs3:starEach [Expr.Call (.Name "zip" p') [a,b] [] pos'] X.env = [(false,eval (.Call (.Name "zip" p') [a,b] [] pos') X.env)]:=by rfl) :
  PI X (.Tuple es x1 tpos) (.Call (.Name "enumerate" p) [.Call (.Name "zip" p') [a,b] [] pos'] [] pos) (yV X.K k1 k2 ta):=by
 intro pins s σ H R I h
 refine Call_ (iY (u:=.type "enumerate") I hg hm (by decide +kernel) (PyProof.Rows.callWith_type1 ?_ hs3 rfl))
 rw [hs3]
 show wpAny _ _ (spliced ((false,eval (.Call (.Name "zip" p') [a,b] [] pos') X.env)::[])) _ _ s
 refine Calls.spliced_cons ?_
 refine Call_ (iY (u:=.type "zip") I hg2 hm2 (by decide +kernel) (PyProof.Rows.callWith_type1 (thn (ha pos' pins s σ H _ I h) fun us s1 hx9=>?_) (by rw [hs,hs2]) (by rw [hs2]; rfl)))
 obtain ⟨vs,H1,I1,r1,q1⟩:=hx9
 obtain ⟨l1,l2,xs,ys,rfl,hA,hB,q⟩:=q1
 obtain ⟨u1,u2,rfl,r1',r2'⟩:=oX r1
 cases r1'
 cases r2'
 obtain ⟨its,rv,pa⟩:=I1.seqK hA
 obtain ⟨jts,rw',pb⟩:=I1.seqK hB
 refine callType_new PySem.F.called_zip (by decide) (PySem.F.typeCall_zip_2 _ _) (PySem.F.newCall_zip_2 _ _) (fun obj=>PySem.F.args_object_init_3 obj _ _) PySem.F.entry_zip_new (yF k1 k2 l1 l2 its.toArray jts.toArray) ⟨pa,pb,?_⟩
 have n1:(zh1 k1 s1.heap l1).objs.size=s1.heap.objs.size+1:=Xa ..
 have n2:(zh2 k1 k2 s1.heap l1 l2).objs.size=s1.heap.objs.size+2:=by rw [Xa,n1]
 have n3:(zh3 k1 k2 s1.heap l1 l2).objs.size=s1.heap.objs.size+3:=by rw [Xa,n2]
 have n4:(zh4 k1 k2 s1.heap l1 l2).objs.size=s1.heap.objs.size+4:=by rw [Xa,n3]
 have n5:(zh5 k1 k2 s1.heap l1 l2).objs.size=s1.heap.objs.size+5:=by rw [Xa,n4]
 have g5:IsZip (zh5 k1 k2 s1.heap l1 l2) (zh4 k1 k2 s1.heap l1 l2).objs.size (zh2 k1 k2 s1.heap l1 l2).objs.size (zh3 k1 k2 s1.heap l1 l2).objs.size .none:=Ql _ rfl
 have g4:IsPair (zh5 k1 k2 s1.heap l1 l2) (zh3 k1 k2 s1.heap l1 l2).objs.size .none .none:=Qc _ (Ql _ rfl)
 have g3:IsPair (zh5 k1 k2 s1.heap l1 l2) (zh2 k1 k2 s1.heap l1 l2).objs.size (.ref s1.heap.objs.size) (.ref (zh1 k1 s1.heap l1).objs.size):=Qc _ (Qc _ (Ql _ rfl))
 have g2:ItK k2 (zh5 k1 k2 s1.heap l1 l2) (zh1 k1 s1.heap l1).objs.size l2 0:=(ItK.new k2 (zh1 k1 s1.heap l1) l2).at fun o e=>Qc _ (Qc _ (Qc _ e))
 have g1:ItK k1 (zh5 k1 k2 s1.heap l1 l2) s1.heap.objs.size l1 0:=(ItK.new k1 s1.heap l1).at fun o e=>Qc _ (Qc _ (Qc _ (Qc _ e)))
 have kp:∀ c o,s1.heap.get? c=some o->(zh5 k1 k2 s1.heap l1 l2).get? c=some o:=fun c o e=>Qc _ (Qc _ (Qc _ (Qc _ (Qc _ e))))
 refine ⟨⟨_,g5,rfl⟩,Calls.spliced_nil ?_⟩
 rw [n1,n2,n3,n4] at *
 generalize zh5 k1 k2 s1.heap l1 l2=hz5 at *
 refine callType_new PySem.F.called_enumerate (by decide) (PySem.F.typeCall_enumerate_1 _) (PySem.F.newCall_enumerate_1 _) (fun obj=>PySem.F.args_object_init_2 obj _) PySem.F.entry_enumerate_new (oR (s1.heap.objs.size+4) (s1.heap.objs.size+2) (s1.heap.objs.size+3)) ⟨g5,?_⟩
 have ge:IsEnum (hz5.push { cls:=.type "enumerate",data:=.fields #[.none,.bool false,.ref (s1.heap.objs.size+4),rawInt 0,.none,.none] }) hz5.objs.size (s1.heap.objs.size+4) 0 .none:=Ql _ rfl
 have kp6:∀ c o,hz5.get? c=some o->(hz5.push { cls:=.type "enumerate",data:=.fields #[.none,.bool false,.ref (s1.heap.objs.size+4),rawInt 0,.none,.none] }).get? c=some o:=fun c o e=>Qc _ e
 rw [n5] at ge
 show (∃ _,_)/\_
 rw [n5]
 generalize hz5.push { cls:=.type "enumerate",data:=.fields #[.none,.bool false,.ref (s1.heap.objs.size+4),rawInt 0,.none,.none] }=h6 at ge kp6 ⊢
 refine ⟨⟨_,ge,rfl⟩,wpAny_pyIter_enum ge ?_⟩
 have I2:Inv X pins σ H1 { s1 with heap:=h6 }:=I1.kept (t':=s1.toks) fun c o e=>kp6 c o (kp c o e)
 have d:∀ i j:Nat,i≠j->s1.heap.objs.size+i≠s1.heap.objs.size+j:=fun i j h=>by omega
 refine ⟨s1.heap.objs.size+5,[s1.heap.objs.size+5,s1.heap.objs.size+4,s1.heap.objs.size+2,s1.heap.objs.size+3,s1.heap.objs.size,s1.heap.objs.size+1],_,_,H1,rfl,I2,qR k1 k2 l1 l2 _ _ _ _ _ _ ?_ ⟨d 5 4 (by decide),d 5 2 (by decide),d 5 3 (by decide),d 5 0 (by decide),d 5 1 (by decide)⟩,⟨⟨_,ge⟩,⟨⟨_,_,.inl rfl,kp6 _ _ g5⟩,kp6 _ _ g3,⟨_,_,kp6 _ _ g4⟩⟩,g1.at fun o e=>kp6 _ _ e,g2.at fun o e=>kp6 _ _ e⟩,fun c hc=>?_,q⟩
 ·intro m1 m2 h1 h2
  exact ⟨d 2 4 (by decide),d 3 4 (by decide),d 0 4 (by decide),d 1 4 (by decide),d 2 3 (by decide),d 2 0 (by decide),d 2 1 (by decide),d 3 0 (by decide),d 3 1 (by decide),d 0 1 (by decide),
   h1 _ (by simp),h1 _ (by simp),h1 _ (by simp),h1 _ (by simp),h2 _ (by simp),h2 _ (by simp),h2 _ (by simp),h2 _ (by simp)⟩
 ·have hc':s1.heap.objs.size<=c:=by
   simp only [Qs,Qy,or_false] at hc
   rcases hc with r | r | r | r | r | r <;> rw [r]
   all_goals first | exact Qi _ | exact Nat.le_add_right _ _
  exact I1.fpOk hc' (I1.hok.fresh hc')
end
theorem sQ {K:PySem.W.Frag} {k1 k2:Sk} {a b:Addr} {xs ys:List V} {g:TG} {tb:TS} {D:Ends} {σ:St} {H:Hp} (Pv:Nat->St->Hp->Prop) (heq:xs.length=ys.length) (h0:Pv 0 σ H) (hl:∀ i σ H,i<=xs.length->Pv i σ H->SqK k1 K H a xs/\SqK k2 K H b ys)
  (hs:∀ i x y p q σ H,xs[i]?=some x->ys[i]?=some y->Pv i σ H->H p=none->H q=none->q≠p->g (.ref q) σ (upd (upd H p (.tup [x,y])) q (.tup [.int (i:Nat),.ref p])) fun σ2 H2=>tb { D with nx:=Pv (i+1),ct:=Pv (i+1),bk:=D.nx } σ2 H2) (hd:∀ σ H,Pv xs.length σ H->D.nx σ H) :
  ∃ W:Nat->Nat->St->Hp->Prop,(∃ m,W 0 m σ H)/\∀ i m σ H,W i m σ H ->
   ((yU K k1 k2 a b).stop i H/\D.nx σ H)∨((yU K k1 k2 a b).go i H/\∃ N:St->Hp->Prop,(∀ σ' H',N σ' H'->∃ m',m' < m/\W (i+1) m' σ' H')/\∀ x H',(yU K k1 k2 a b).yld i H x H'->g x σ H' fun σ2 H2=>tb { D with nx:=N,ct:=N,bk:=D.nx } σ2 H2):=by
 refine ⟨fun i m σ H=>m=xs.length - i/\i<=xs.length/\Pv i σ H,⟨xs.length,by simp,Jz _,h0⟩,?_⟩
 rintro i m σ H ⟨rfl,hi,p⟩
 obtain ⟨q1,q2⟩:=hl i σ H hi p
 by_cases hlt:i < xs.length
 ·refine .inr ⟨⟨xs,ys,xs[i],ys[i]'(by omega),q1,q2,Qb hlt,Qb (by omega)⟩,Pv (i+1),fun σ' H' p'=>⟨xs.length - (i+1),by omega,rfl,hlt,p'⟩,fun x H' y=>?_⟩
  obtain ⟨p1,q1',hp1,hq1,hne,rfl,hy⟩:=y
  obtain ⟨x,y,h1,h2,rfl⟩:=hy xs ys q1 q2
  exact hs i x y p1 q1' σ H h1 h2 p hp1 hq1 hne
 ·have e:i=xs.length:=by omega
  subst e
  exact .inl ⟨⟨xs,ys,q1,q2,by rw [<- heq,Zq]⟩,hd σ H p⟩
end L2
namespace L2
open PySem
section
variable {X:Cx} {K:PySem.W.Frag} {pos:Pos}
theorem kIn (hK:X.K=K):OpR X (compareOp .In) (rIn K false):=by subst hK; exact wG
end
section
variable {α β γ δ ε ζ η θ ι κ:Type}
end
end L2
namespace L2
open PySem PySem.Spec PyProof.Rows
section
variable {X:Cx}
end
section
variable {K:PySem.W.Frag} {own:Nat} {fr:List Nat} {g:TG} {te:TE} {σ:St} {H:Hp} {Qf:Hp->List V->Prop}
end
structure Tb (L:Bool) (t:SetTable) (n m:Nat):Prop where
 mask:(t.mask=7/\n<=m)∨(t.mask=31/\n<=18)
 dums:t.dummies = #[]
 plain:t.plain=true
 led:t.led=L
 size:t.place.size=n
 rise:t.place.toList.Pairwise (· < ·)
def ent (p:Int×Tok):Int×Value:=(hashInt p.1,.int p.1 p.2)
def SG (L:Bool) (h:Heap) (a:Addr) (ks:List (Int×Tok)):Prop:=∃ o ep es t,h.get? a=some o/\o.ExactSet/\o.data=.set es ep t/\es.toList.Perm (ks.map ent)/\Tb L t es.size 4
theorem SG.keep {L:Bool} {h h':Heap} {a:Addr} {l:List (Int×Tok)} (x:SG L h a l) (k:∀ o,h.get? a=some o->h'.get? a=some o):SG L h' a l:=by
 obtain ⟨o,ep,es,t,e,r⟩:=x
 exact ⟨o,ep,es,t,k o e,r⟩
section
variable {prog:Program} {w:World} {A:Around} {E:Value->Shared->Prop} {s:Shared} {L:Bool} {a:Addr}
structure KsOf (ks:List (Int×Tok)) (ns:List Int):Prop where
 nd:(ks.map (·.1)).Nodup
 mem:∀ k,k∈ks.map (·.1)↔k∈ns
 len:ks.length<=ns.length
end
section
variable {prog:Program} {w:World} {A:Around} {E:Value->Shared->Prop} {s:Shared} {S:Addr} {o:Obj} {ep:Nat} {es:Array (Int×Value)} {t:SetTable}
end
section
variable {X:Cx}
end
open PySem.AutoSeq1 (wpAny_loadPart')
theorem oS (l:Addr) (items:Array Value) (n:Nat) (dd:Option Addr) (sl:Array (Option Value)) (u:Tok) :
  Meets (Builtin.«tuple.__mul__» ⟨[.ref l,.int 1 u],[]⟩) (fun _ R s=>s.heap.get? l=some { cls:=.type "tuple",dict:=dd,data:=.seq items n,slots:=sl }/\R (.ok (.ret (Value.ref l))) s) :=
 .of_wp fun prog w A R s h=>by
  obtain ⟨hp,g,d,tk,os⟩:=s
  obtain ⟨hl,h⟩:=h
  have f1:=AutoSeq1.idx_int
  have f2:=AutoSeq1.sub_tuple_tuple
  wp_walk using wpAny_loadPart' hl
  exact ⟨_,rfl,h⟩
theorem mV (l:Addr) (items:Array Value) (n:Nat) (dd:Option Addr) (sl:Array (Option Value)) (u:Tok) (hne:items.isEmpty=false) :
  Meets (Builtin.«tuple.__mul__» ⟨[.ref l,.int 0 u],[]⟩) (fun _ R s=>s.heap.get? l=some { cls:=.type "tuple",dict:=dd,data:=.seq items n,slots:=sl }/\R (.ok (.ret (Value.ref s.heap.objs.size))) { s with heap:=s.heap.push { cls:=Value.type "tuple",data:=Data.seq #[] } }) :=
 .of_wp fun prog w A R s h=>by
  obtain ⟨hp,g,d,tk,os⟩:=s
  obtain ⟨hl,h⟩:=h
  have f1:=AutoSeq1.idx_int
  have f2:=AutoSeq1.sub_tuple_tuple
  wp_walk using wpAny_loadPart' hl
  exact ⟨_,rfl,h⟩
theorem lG (l:Addr) (items:Array Value) (n:Nat) (dd:Option Addr) (sl:Array (Option Value)) (u:Tok) (hne:items.isEmpty=true) :
  Meets (Builtin.«tuple.__mul__» ⟨[.ref l,.int 0 u],[]⟩) (fun _ R s=>s.heap.get? l=some { cls:=.type "tuple",dict:=dd,data:=.seq items n,slots:=sl }/\R (.ok (.ret (Value.ref l))) s) :=
 .of_wp fun prog w A R s h=>by
  obtain ⟨hp,g,d,tk,os⟩:=s
  obtain ⟨hl,h⟩:=h
  have f1:=AutoSeq1.idx_int
  have f2:=AutoSeq1.sub_tuple_tuple
  wp_walk using wpAny_loadPart' hl
  exact ⟨_,rfl,h⟩
def aCt (K:PySem.W.Frag):R2:=fun x y H Q=>∃ a,∃ k:Nat,∃ xs,x=.ref a/\y=.int k/\SqT K H a xs/\k<=1000/\xs.length<=1000/\∀ p H',aG H H'->SqT K H' p (List.replicate k xs).flatten->Q (.ref p) H'
theorem vI {X:Cx} {K:PySem.W.Frag} (hK:X.K=K):OpR X (binaryOp .Mult) (aCt K):=by
 intro pins s σ H x y v u Q I rx ry h
 obtain ⟨a,k,xs,rfl,rfl,ha,h2,hz,q⟩:=h
 by_cases h1:1 < k
 ·exact aAz hK pins s σ H _ _ v u Q I rx ry ⟨a,k,xs,rfl,rfl,ha,by omega,by omega,hz,q⟩
 subst hK
 cases rx
 obtain ⟨t,rfl⟩:=ry
 obtain ⟨its,r,⟨⟨cls,dd,data,sl⟩,ho,hc,n,hd⟩,hzz⟩:=I.tuple ha
 simp only at hc hd
 subst hc hd
 refine wpAny_binaryOp_repeat_ref (T := "tuple") (U := "int") (by decide) ⟨_,ho,rfl⟩ (fun s'=>typeIs_int s' k t) fT PySem.F.fills_int_mul PySem.F.slot_int_rmul jL PySem.F.slot_int_index.lookup
  (call_meets PySem.F.slot_int_rmul (typeIs_int s k t) PySem.F.entry_int_rmul (PySem.F.args_int_rmul_2 _ _) (gX k t a its.toArray n dd sl) ⟨ho,rfl,⟨_,ho,rfl⟩,?_⟩)
 rcases (show k=0∨k=1 by omega) with rfl | rfl
 ·by_cases hx:its = []
  ·subst hx
   cases r
   refine call_meets PySem.F.slot_tuple_mul ⟨_,ho,rfl⟩ PySem.F.entry_tuple_mul (PySem.F.args_tuple_mul_2 _ _) (lG a _ n dd sl t rfl) ⟨ho,?_⟩
   exact ⟨.ref a,H,I,rfl,q a H (aG.refl H) ha⟩
  ·have hne:its.toArray.isEmpty=false:=by
    cases its with
    | nil=>exact absurd rfl hx
    | cons _ _=>rfl
   refine call_meets PySem.F.slot_tuple_mul ⟨_,ho,rfl⟩ PySem.F.entry_tuple_mul (PySem.F.args_tuple_mul_2 _ _) (mV a its.toArray n dd sl t hne) ⟨ho,?_⟩
   refine ⟨.ref _,_,I.laid (t':=s.toks) (o:=.tup []) (fun b ob q=>Qc _ q) (Qi _) ?_,rfl,q _ _ (aG.new (I.hok.fresh (Qi _))) (SqT.of aA)⟩
   exact ⟨Jz _,[],0,.nil,Ql _ rfl⟩
 ·refine call_meets PySem.F.slot_tuple_mul ⟨_,ho,rfl⟩ PySem.F.entry_tuple_mul (PySem.F.args_tuple_mul_2 _ _) (oS a its.toArray n dd sl t) ⟨ho,?_⟩
  exact ⟨.ref a,H,I,rfl,q a H (aG.refl H) (by simpa using ha)⟩
abbrev aBa (h:Heap) (T:Addr) (a b c:Value):Prop:=h.get? T=some { cls:=.type "tuple",data:=.seq #[a,b,c] }
structure Zip3Apart (z TI TO i1 i2 i3 l1 l2 l3:Addr):Prop where
 TIz:TI≠z
 TOz:TO≠z
 i1z:i1≠z
 i2z:i2≠z
 i3z:i3≠z
 TITO:TI≠TO
 TIi1:TI≠i1
 TIi2:TI≠i2
 TIi3:TI≠i3
 TOi1:TO≠i1
 TOi2:TO≠i2
 TOi3:TO≠i3
 i12:i1≠i2
 i13:i1≠i3
 i23:i2≠i3
 l1:∀ c∈[z,TO,i1,i2,i3],l1≠c
 l2:∀ c∈[z,TO,i1,i2,i3],l2≠c
 l3:∀ c∈[z,TO,i1,i2,i3],l3≠c
section
variable {prog:Program} {w:World} {A:Around} {E:Value->Shared->Prop} {s:Shared} {z TI TO i1 i2 i3 l1 l2 l3:Addr} {n n2 n3:Nat} {P1 P2 P3:Nat->Value->Prop} {st1 st2 st3:Nat->Heap->Prop}
end
section
variable (k1 k2 k3:Sk) (h:Heap) (a b d:Addr)
end
section
variable {X:Cx} {es:List Expr} {x1:Nat} {tpos:Pos}
end
section
variable {K:PySem.W.Frag} {own:Nat} {fr:List Nat} {g:TG} {te:TE} {σ:St} {H:Hp} {Qf:Hp->List V->Prop}
end
section
variable {X:Cx} {K:PySem.W.Frag}
end
theorem qS {prog:Program} {w:World} {A:Around} {R:Result->Shared->Prop} {s:Shared} {kx vx target iter:Expr} {ifs:List Expr} {scope:Scope} {pos:Pos} {it:Value} {D:Addr} {env:Env} (I:Nat->Shared->Prop)
  (turn:∀ n s,I n s->wpAny (model prog w) A (pyNext it) (fun r s₁=>match r with
   | none=>R (.ok .next) s₁
   | some v=>wpAny (model prog w) A (letOwnedTupleGo target it v) (fun _ s₁'=>wpAny (model prog w) A (assign target env v) (fun _ s₂ =>
     wpAny (model prog w) A (forIn ifs true fun c r=>if r=true then do let ok<-isTrue c env (eval c env); pure (ForInStep.yield ok) else pure (ForInStep.yield r)) (fun ok s₃ =>
      if ok=true then wpAny (model prog w) A (eval kx env) (fun kv s₄=>wpAny (model prog w) A (eval vx env) (fun vv s₅ =>
       wpAny (model prog w) A (dictSet D kv vv) (fun _ s₆=>∃ m,m < n/\I m s₆) (fun _ _=>False) s₅) (fun _ _=>False) s₄) (fun _ _=>False) s₃
      else ∃ m,m < n/\I m s₃) (fun _ _=>False) s₂) (fun _ _=>False) s₁') (fun _ _=>False) s₁) (fun _ _=>False) s)
  (n:Nat) (h:I n s) :
  codeAny (model prog w) A (.compLoop (.DictComp kx vx [⟨target,iter,ifs,0⟩] scope pos) 0 it (.ref D) env) R s:=by
 refine codeAny_loop rfl I (fun n s hI=>?_) n h
 show wpAny _ A ((compTurn (.DictComp kx vx [⟨target,iter,ifs,0⟩] scope pos) 0 it (.ref D) env).onRaise (fun x=>do noteFrame x env; theTreesLotGoes x)) _ _ s
 refine wpAny_noted ?_
 rw [compTurn_dict]
 refine wpAny_bind (wpAny_standAt (wpAny_bind (wpAny_mono (turn n s hI) (fun r s₁ h₁=>?_) fun _ _ h'=>h'.elim)))
 cases r with
 | none=>exact wpAny_pure h₁
 | some v =>
  refine wpAny_bind (wpAny_mono h₁ (fun _ s₁' h₁'=>?_) fun _ _ h'=>h'.elim)
  refine wpAny_bind (wpAny_mono h₁' (fun _ s₂ h₂=>wpAny_bind (wpAny_mono h₂ (fun ok s₃ h₃=>?_) fun _ _ h'=>h'.elim)) fun _ _ h'=>h'.elim)
  cases ok with
  | false=>exact wpAny_pure ⟨rfl,h₃⟩
  | true =>
   exact wpAny_bind (wpAny_bind (wpAny_mono h₃ (fun kv s₄ h₄=>wpAny_bind (wpAny_holding (wpAny_mono h₄ (fun vv s₅ h₅=>wpAny_bind (wpAny_standAt (wpAny_holding (wpAny_mono h₅ (fun _ s₆ h₆=>wpAny_pure ⟨rfl,h₆⟩) fun _ _ h'=>h'.elim)))) fun _ _ h'=>h'.elim))) fun _ _ h'=>h'.elim))
def aBE (own:Nat) (fr:List Nat) (wi:TI) (g:TG) (tt:TT) (tk tv:TE):TE:=fun σ H Q=>wi σ H fun J H1=>∃ W:Nat->Nat->List (Key×V)->St->Hp->Prop,(∃ m,W 0 m [] (blk own fr σ) H1)/\∀ i m ys σ' H,W i m ys σ' H ->
 (J.stop i H/\∀ p,H p=none->Q (.ref p) (upd H p (.dK ys))) ∨
 (J.go i H/\∃ N:List (Key×V)->St->Hp->Prop,(∀ ys' σ2 H2,N ys' σ2 H2->∃ m',m' < m/\W (i+1) m' ys' σ2 H2) /\
  ∀ x H',J.yld i H x H'->g x σ' H' fun σ2 H2=>tt σ2 H2 fun b H3=>if b=true then tk σ2 H3 fun x H4=>tv σ2 H4 fun y H5=>∃ k,x=kV k/\ys.length < sizeLine/\N (dF ys k y) σ2 H5 else N ys σ2 H3)
section
variable {X:Cx} {scope:Scope} {own frn:List Str} {fr:List Nat} {kx vx tg iter:Expr} {ifs:List Expr} {pos:Pos} {wi:TI} {g:TG} {tt:TT} {tk tv:TE}
theorem Inv.trackD {pins:List (Addr×Obj)} {σ:St} {H:Hp} {s:Shared} {D:Addr} {ys:List (Key×V)} {its:List (Key×Value)} (I:Inv X pins σ H s) (hD:s.heap.DictOf (aP X.prog X.w) D its) (hv:KV ys its) (hz:ys.length<=sizeLine) (hm:(D==sysModules)=false) (hn:H D=none) (hL:D≠X.env.locals)
  (h1:X.s₀.heap.objs.size<=D) (h2:∀ x c,X.env.cells.lookup x=some c->c≠D) (h3:∀ p∈X.pn++pins,p.1≠D):Inv X pins σ (upd H D (.dK ys)) s:=by
 have ne:∀ b u,H b=some u->b≠D:=fun b u e z=>by rw [z,hn] at e; cases e
 refine I.step (g':=s.gens) (d':=s.drawn) (t':=s.toks) (h':=s.heap) (ch:=[D]) (fun b hb=>?_) (fun b o _ _ _ e _=>e) (fun b o _ _ _ e _=>⟨o.slots,e⟩) (fun b o hc _ n=>?_) (fun b o _ e=>⟨o,e⟩)
  (fun b xs e=>by rw [aD (ne b _ e)]; exact e) (fun b o u e=>by rw [aD (ne b _ e)]; exact e) (fun b ps e=>⟨#[],by rw [aD (ne b _ e),e]; simp⟩) (fun _ h=>h) (fun b u e=>?_) I.bare
 ·have e:b=D:=by simpa using hb
  subst e
  exact ⟨.inr h1,hL,h2,h3⟩
 ·rw [aD (by simpa using hc)]; exact n
 ·by_cases hb:b=D
  ·subst hb
   rw [aA] at e; cases e
   exact ⟨hz,hm,its,hv,hD⟩
  ·rw [aD hb] at e
   exact (I.hok b u e).stay (fun c v _ q=>q) (fun c q=>by rw [aD (ne c _ q)]; exact q) fun c xs q=>by rw [aD (ne c _ q)]; exact q
theorem sR {pins:List (Addr×Obj)} {σ:St} {H2:Hp} {s2:Shared} {it:Addr} {fp:List Addr} {tn:Nat->Heap->Prop} {J:It} {RR:Value->Addr->Result->Shared->Prop} {E:Value->Shared->Prop} {Q:Hp->List (Key×V)->Prop}
  (S:CompOk X scope own fr frn) (hc:X.calm=true) (I2:Inv X pins σ H2 s2) (T:Turn X.prog X.w X.K tg J fp it tn) (st2:tn 0 s2.heap) (f2:∀ b∈fp,kC X pins H2 b)
  (hg:∀ C s0 H0 fp,PG (aL X scope (own++frn) C s0 H0 fp) tg g) (ht:∀ C s0 H0 fp,PF (aL X scope (own++frn) C s0 H0 fp) ifs tt) (hk:∀ C s0 H0 fp,PE (aL X scope (own++frn) C s0 H0 fp) kx tk) (he:∀ C s0 H0 fp,PE (aL X scope (own++frn) C s0 H0 fp) vx tv)
  (w:∃ W:Nat->Nat->List (Key×V)->St->Hp->Prop,(∃ m,W 0 m [] (blk own.length fr σ) H2)/\∀ i m ys σ' H,W i m ys σ' H ->
   (J.stop i H/\Q H ys) ∨
   (J.go i H/\∃ N:List (Key×V)->St->Hp->Prop,(∀ ys' σ2 H2,N ys' σ2 H2->∃ m',m' < m/\W (i+1) m' ys' σ2 H2) /\
    ∀ x H',J.yld i H x H'->g x σ' H' fun σ2 H2=>tt σ2 H2 fun b H3=>if b=true then tk σ2 H3 fun x H4=>tv σ2 H4 fun y H5=>∃ k,x=kV k/\ys.length < sizeLine/\N (dF ys k y) σ2 H5 else N ys σ2 H3))
  (hRR:∀ (C D:Addr) (s':Shared) (H':Hp) (ys:List (Key×V)) (its:List (Key×Value)) (m:Str->Option Value),s2.heap.objs.size<=C->s2.heap.objs.size<=D->D≠C->s'.heap.Ns C m->H' C=none->H' D=none->s'.heap.DictOf (aP X.prog X.w) D its->KV ys its->ys.length<=sizeLine ->
   Inv X pins σ H' s'->Q H' ys->RR (.ref D) C (.ok .next) s') :
  wpAny (model X.prog X.w) X.A newDict (fun acc s₃=>wpAny (model X.prog X.w) X.A (newFunctionEnv scope X.env.globals (cJ X.env scope.names []) [] X.env.qual none .none (some X.env)) (fun cenv s₄ =>
   codeAny (model X.prog X.w) X.A (.compStart (.DictComp kx vx [⟨tg,iter,ifs,0⟩] scope pos) 0 (.ref it) acc { cenv with scope:=relabel scope X.env }) (RR acc cenv.locals) s₄) E s₃) E s2:=by
 obtain ⟨p1,p2,p3,p4,p5,p6,p7⟩:=S.parts
 obtain ⟨W,⟨m0,w0⟩,turn⟩:=w
 refine wpAny_newObj_type (wpAny_newFunctionEnv p2 (by intro y hy; simp at hy) (fun h₁ hns₁ hsb₁=>?_) p1)
 dsimp only at hns₁ hsb₁ ⊢
 generalize hH2:s2.heap.push { cls:=.type "dict",dict:=none,data:=.dict #[] }=HD at hns₁ hsb₁ ⊢
 have hCs:HD.objs.size=s2.heap.objs.size+1:=by rw [<- hH2,Xa]
 have hDC:s2.heap.objs.size≠HD.objs.size:=by omega
 have hCle:s2.heap.objs.size<=HD.objs.size:=by omega
 have below:∀ b,b < s2.heap.objs.size->b≠HD.objs.size/\b≠s2.heap.objs.size:=fun b hb=>⟨by omega,by omega⟩
 have old:∀ b o,s2.heap.get? b=some o->h₁.get? b=some o:=fun b o e=>hsb₁.extBut b o (below b (Qk e)).1 (Qc _ (hH2 ▸ Qc _ e))
 have hacc:h₁.get? s2.heap.objs.size=some { cls:=.type "dict",dict:=none,data:=.dict #[] }:=hsb₁.extBut _ _ hDC (Qc _ (hH2 ▸ Ql _ rfl))
 have hdict:h₁.DictOf (aP X.prog X.w) s2.heap.objs.size []:=Heap.DictOf.at (hH2 ▸ Heap.DictOf.new s2.heap:HD.DictOf (aP X.prog X.w) s2.heap.objs.size []) fun o e=>hsb₁.extBut _ _ hDC (Qc _ e)
 have flt:∀ b∈fp,b < s2.heap.objs.size:=fun b hb=>by
  obtain ⟨o,e,_⟩:=T.obj _ _ st2 b hb
  exact Qk e
 generalize hDg:s2.heap.objs.size=D at *
 generalize hCg:HD.objs.size=C at *
 have st3:tn 0 h₁:=T.keep _ _ _ st2 fun b _ o e=>old b o e
 -- facts of the block
 have clsub:∀ x c,(cJ X.env scope.names []).lookup x=some c->X.env.cells.lookup x=some c:=fun x c e=>by
  rcases fQ _ _ _ _ (eD e) with q | q
  ·cases q
  ·exact q
 have cD:∀ x c,(cJ X.env scope.names []).lookup x=some c->c≠D:=fun x c e z=>by
  obtain ⟨v,q⟩:=I2.cell x c (clsub x c e)
  exact Jn _ (Qo q.lt (by rw [hDg,z]; exact Qi _))
 have loop:∀ s₃:Shared,s₃={ s2 with heap:=h₁,toks:=s2.toks+([]:List (Str×Value)).length } ->
   codeAny (model X.prog X.w) X.A (.compLoop (.DictComp kx vx [⟨tg,iter,ifs,0⟩] scope pos) 0 (.ref it) (.ref D) (compEnvC scope (cJ X.env scope.names []) C X.env)) (RR (.ref D) C) s₃:=by
  rintro s₃ rfl
  have I3:Inv (aL X scope (own++frn) C s2 H2 fp) [(D,_)] (blk own.length fr σ) H2 { s2 with heap:=h₁,toks:=s2.toks+([]:List (Str×Value)).length } :=
   sD (m:=fun _=>none) I2 S f2 (by rw [hDg]; exact flt) (by rw [hDg]; exact hCle) (hns₁:h₁.Ns C _) old (by rw [hDg]; exact Qi _) hDC hacc (fun v z=>by cases z)
  have stat:∀ {H':Hp} {pl:List (Addr×Obj)},(∀ p∈pl,p.1=D)->(∀ b∈fp,H' b=none)->∀ b∈fp,kC (aL X scope (own++frn) C s2 H2 fp) pl H' b:=fun {H' pl} hpl hn b hb=>by
   refine ⟨hn b hb,(below b (flt b hb)).1,fun z=>?_,.inl hb,fun x c e=>(f2 b hb).2.2.2.2.1 x c (clsub x c e),fun p hp=>?_⟩
   ·have z':b∈frs X.stack:=z
    rcases Qs.mp (I2.stkSub b z') with e | e
    ·exact (f2 b hb).2.1 e
    ·exact (f2 b hb).2.2.1 e
   ·have hp':p∈pl:=by simpa [aL] using hp
    rw [hpl p hp']
    exact Ne.symm (below b (flt b hb)).2
  refine qS (env:=compEnvC scope (cJ X.env scope.names []) C X.env) (fun n s'=>∃ i σ' H' ys its o,Inv (aL X scope (own++frn) C s2 H2 fp) [(D,o)] σ' H' s'/\s'.heap.DictOf (aP X.prog X.w) D its/\KV ys its/\ys.length<=sizeLine/\tn i s'.heap/\(∀ b∈fp,H' b=none)/\W i n ys σ' H') ?_ m0
   ⟨0,_,H2,[],[],_,I3,hdict,.nil,Jz _,st3,fun b hb=>(f2 b hb).1,w0⟩
  rintro n s5 ⟨i,σ5,H5,ys,its,o,I5,pl5,v5,z5,st5,fr5,w5⟩
  have one:∀ {o:Obj},∀ p∈[(D,o)],p.1=D:=fun p hp=>by
   have e:=Qm.mp hp
   rw [e]
  rcases turn i n ys σ5 H5 w5 with ⟨stop,qn⟩ | ⟨go,N,hN,step⟩
  ·refine wpAny_mono (T.done (aL X scope (own++frn) C s2 H2 fp) rfl rfl rfl hc i _ s5 σ5 H5 (fun _ _=>False) I5 (stat one fr5) st5 stop) (fun r s6 hx9=>?_) fun _ _ z=>z
   obtain ⟨hr,I6⟩:=hx9
   subst hr
   obtain ⟨m6,hn6,_⟩:=I6.loc
   have p6:=I6.pin (D,o) (by simp [aL])
   have p5':=I5.pin (D,o) (by simp [aL])
   have pl6:s6.heap.DictOf (aP X.prog X.w) D its:=pl5.at fun o' e=>p6.1.trans (p5'.1.symm.trans e)
   have IX:Inv X pins σ H5 s6:=I2.call' (ch:=fp) I6.os I6.base I6.hok I6.bare fun b hb=>⟨(f2 b hb).2.2.2.1,(f2 b hb).2.1,(f2 b hb).2.2.2.2.1,(f2 b hb).2.2.2.2.2⟩
   exact hRR C D s6 H5 ys its m6 hCle (Qi _) hDC hn6 I6.free p6.2.1 pl6 v5 z5 IX qn
  ·refine wpAny_mono (T.item (aL X scope (own++frn) C s2 H2 fp) rfl rfl rfl hc i _ s5 σ5 H5 (fun _ _=>False) I5 (stat one fr5) st5 go) (fun r s6 hx9=>?_) fun _ _ z=>z
   obtain ⟨u,hr,h6⟩:=hx9
   subst hr
   refine wpAny_mono h6 (fun _ s7 hx9=>?_) fun _ _ z=>z
   obtain ⟨x,H7,I7,r7,y7,st7,fr7⟩:=hx9
   have I7':=I7.pinned (stat one fr7) (T.obj _ _ st7)
   refine wpAny_mono (hg C s2 H2 fp _ s7 σ5 H7 x u _ I7' r7 (step x H7 y7)) (fun _ s8 hx9=>?_) fun _ _ z=>z
   obtain ⟨σ8,H8,I8,q8⟩:=hx9
   refine wpAny_mono (ht C s2 H2 fp _ s8 σ8 H8 _ I8 q8) (fun b s9 hx9=>?_) fun _ _ z=>z
   obtain ⟨H9,I9,q9⟩:=hx9
   -- what stands of the iterator and of the gathered list behind the tests,behind the item
   have keepT:∀ {H':Hp} {s':Shared} {σ':St},Inv (aL X scope (own++frn) C s2 H2 fp) ([(D,o)]++kD fp s7.heap) σ' H' s'->tn (i+1) s'.heap/\(∀ b∈fp,H' b=none)/\s'.heap.DictOf (aP X.prog X.w) D its/\H' D=none:=fun {H' s' σ'} I'=>by
    refine ⟨T.keep _ _ _ st7 fun b hb o e=>(I'.pin (b,o) (Qn _ (Qn _ (dP hb e)))).1,fun b hb=>?_,?_,?_⟩
    ·obtain ⟨o,e,d⟩:=T.obj _ _ st7 b hb
     exact (I'.pin (b,o) (Qn _ (Qn _ (dP hb e)))).2.1
    ·have p':=I'.pin (D,o) (by simp [aL])
     have p5':=I5.pin (D,o) (by simp [aL])
     exact pl5.at fun o' e=>p'.1.trans (p5'.1.symm.trans e)
    ·exact (I'.pin (D,o) (by simp [aL])).2.1
   cases b with
   | false =>
    rw [if_neg Qt] at q9
    rw [if_neg Qt]
    obtain ⟨m',hm,w'⟩:=hN ys σ8 H9 q9
    obtain ⟨t9,fr9,pl9,_⟩:=keepT I9
    exact ⟨m',hm,i+1,σ8,H9,ys,its,o,I9.unpinned,pl9,v5,z5,t9,fr9,w'⟩
   | true =>
    rw [if_pos rfl] at q9
    rw [if_pos rfl]
    refine wpAny_mono (hk C s2 H2 fp _ s9 σ8 H9 _ I9 q9) (fun kv s9' hx9=>?_) fun _ _ z=>z
    obtain ⟨xv,H9',I9',r9,q9'⟩:=hx9
    refine wpAny_mono (he C s2 H2 fp _ s9' σ8 H9' _ I9' q9') (fun y s10 hx9=>?_) fun _ _ z=>z
    obtain ⟨yv,H10,I10,r10,k10,ek,lt10,q10⟩:=hx9
    subst ek
    obtain ⟨t10,fr10,pl10,hD10⟩:=keepT I10
    have hl:=v5.length
    refine wpAny_dictSet_pairs (knd:=aP X.prog X.w) (kY r9) pl10 (fun h11 pl11 sb11=>?_) (by rw [<- hl]; exact Zc lt10)
    obtain ⟨m',hm,w'⟩:=hN _ σ8 H10 q10
    have I10':Inv (aL X scope (own++frn) C s2 H2 fp) [] σ8 H10 s10:=I10.pins_of fun p hp=>by cases hp
    have I11:Inv (aL X scope (own++frn) C s2 H2 fp) [] σ8 H10 { s10 with heap:=h11,toks:=s10.toks+1 } :=
     I10'.turned (t':=s10.toks+1) (it:=D) (fun b o hb e=>(sb11.2 b hb).trans e) hD10 hDC (.inr (by show s2.heap.objs.size<=D; rw [hDg]; exact Qi _)) cD (fun p hp=>by simp [aL] at hp)
    obtain ⟨o11,es11,ep11,ho11,hc11,hd11,_⟩:=id pl11
    have DfsX:D∉frs X.stack:=fun z=>by
     rcases Qs.mp (I2.stkSub D z) with e | e
     ·exact Jn _ (Qo I2.lt (by rw [hDg,e]; exact Qi _))
     ·exact I2.nofs (by rw [hDg]; exact Qi _) e
    refine ⟨m',hm,i+1,σ8,H10,dF ys k10 yv,stored its k10 y,o11,I11.pins_of fun p hp=>?_,pl11,v5.put k10 r10,Ja (eE _ _ _) lt10,T.keep _ _ _ t10 fun b hb o e=>(sb11.2 b (below b (flt b hb)).2).trans e,fr10,w'⟩
    have e:=Qm.mp hp
    subst e
    exact ⟨ho11,hD10,hDC,DfsX,fun v z=>by rw [hd11] at z; cases z⟩
 exact codeAny_compStart_dict (loop _ rfl) (T.self X.A 0 _ _ _ st3 (loop _ rfl))
theorem yW (S:CompOk X scope own fr frn) (hc:X.calm=true) (hi:PI X tg iter wi) (hg:∀ C s0 H0 fp,PG (aL X scope (own++frn) C s0 H0 fp) tg g) (ht:∀ C s0 H0 fp,PF (aL X scope (own++frn) C s0 H0 fp) ifs tt)
  (hk:∀ C s0 H0 fp,PE (aL X scope (own++frn) C s0 H0 fp) kx tk) (he:∀ C s0 H0 fp,PE (aL X scope (own++frn) C s0 H0 fp) vx tv) (hs:∀ x,foldedSetIterable iter X.env x=pure x:=by intro _; rfl) :
  PE X (.DictComp kx vx [⟨tg,iter,ifs,0⟩] scope pos) (aBE own.length fr wi g tt tk tv):=by
 intro pins s σ H Q I h
 obtain ⟨p1,p2,p3,p4,p5,p6,p7⟩:=S.parts
 rw [arm_eval_DictComp]
 refine wpAny_comprehension_free (use:=none) rfl hs (S.clo I) p1 p3 (thn (hi pins s σ H _ I h) fun v s1 h1=>thn h1 fun itv s2 h2=>?_)
 obtain ⟨it,fp,tn,J,H2,e,I2,T,st2,f2,hw⟩:=h2
 subst e
 refine sR (RR:=fun acc C=>compPost (model X.prog X.w) X.A X.xe none (EP X pins σ Q) acc C) (Q:=fun H ys=>∀ p,H p=none->Q (.ref p) (upd H p (.dK ys))) S hc I2 T st2 f2 hg ht hk he hw ?_
 intro C D s' H' ys its m hC hD hDC hns hHC hHD pl v z IX q
 have cne:∀ a,s2.heap.objs.size<=a->∀ x c,X.env.cells.lookup x=some c->c≠a:=fun a ha x c e z=>by
  obtain ⟨v,w⟩:=I2.cell x c e
  exact Jn _ (Qo w.lt (by rw [z]; exact ha))
 have pne:∀ a,s2.heap.objs.size<=a->∀ p∈X.pn++pins,p.1≠a:=fun a ha p hp z=>Jn _ (Qo (Qk (I2.pin p hp).1) (by rw [z]; exact ha))
 have lne:∀ a,s2.heap.objs.size<=a->a≠X.env.locals:=fun a ha z=>Jn _ (Qo I2.lt (by rw [<- z]; exact ha))
 refine ⟨m,hns,fun h' hs'=>⟨.ref D,upd H' D (.dK ys),?_,rfl,q D hHD⟩⟩
 have IT:Inv X pins σ (upd H' D (.dK ys)) s':=IX.trackD pl v z (beq_eq_false_iff_ne.mpr fun e=>Jn _ (Qo I2.big (by rw [<- e]; exact hD))) hHD (lne D hD) (Ja I2.sz hD) (cne D hD) (pne D hD)
 exact IT.turned (t':=s'.toks) (it:=C) (fun b o hb e=>(hs'.2 b hb).trans e) (by rw [aD (Ne.symm hDC)]; exact hHC) (lne C hC) (.inr (Ja I2.sz hC)) (cne C hC) (pne C hC)
end
def tUp (t:TE):TE:=fun σ H Q=>∃ P:V->Hp->Prop,t σ H P/\∀ x H1,P x H1->Q x H1
def aBF (H0:Hp) (t:TE):TE:=fun σ H Q=>t σ H fun x H'=>∃ a o kvs,H' a=some (.frz o (.dK kvs))/\NF H0 a/\Q x (upd H' a (.dK kvs))
def aBG (own:Nat) (fr:List Nat) (td:TE) (g:TG) (tt:TT) (te:TE):TE:=fun σ H Q=>td σ H fun x H1=>∃ a kvs,x=.ref a/\H1 a=some (.dK kvs)/\∀ o:Obj,∃ W:Nat->Nat->List V->St->Hp->Prop,(∃ m,W 0 m [] (blk own fr σ) (upd H1 a (.frz o (.dK kvs))))/\∀ i m ys σ' H,W i m ys σ' H ->
 ((Itd a o kvs).stop i H/\∀ p,H p=none->Q (.ref p) (upd (upd H p (.lst ys)) a (.dK kvs))) ∨
 ((Itd a o kvs).go i H/\∃ N:List V->St->Hp->Prop,(∀ ys' σ2 H2,N ys' σ2 H2->∃ m',m' < m/\W (i+1) m' ys' σ2 H2) /\
  ∀ x H',(Itd a o kvs).yld i H x H'->g x σ' H' fun σ2 H2=>tt σ2 H2 fun b H3=>if b=true then te σ2 H3 fun y H4=>ys.length < sizeLine/\N (ys++[y]) σ2 H4 else N ys σ2 H3)
section
variable {X:Cx} {scope:Scope} {own frn:List Str} {fr:List Nat} {e elt tg d:Expr} {ifs:List Expr} {pos:Pos} {t td:TE} {g:TG} {tt:TT} {te:TE}
theorem aCu (h:PE X e t):PE X e (tUp t):=by
 intro pins s σ H Q I q
 obtain ⟨P,h1,h2⟩:=q
 refine thn (h pins s σ H P I h1) fun v s1 hx=>?_
 obtain ⟨x,H1,I1,r1,q1⟩:=hx
 exact ⟨x,H1,I1,r1,h2 _ _ q1⟩
theorem aAI (h:PE X e t):PE X e (aBF X.H₀ t):=by
 intro pins s σ H Q I q
 refine thn (h pins s σ H _ I q) fun v s1 hx=>?_
 obtain ⟨x,H1,I1,r1,a,o,kvs,ea,nf,k⟩:=hx
 exact ⟨x,_,I1.thaw ea nf,r1,k⟩
theorem yX (S:CompOk X scope own fr frn) (hc:X.calm=true) (hi:PE X d td) (hg:∀ C s0 H0 fp,PG (aL X scope (own++frn) C s0 H0 fp) tg g) (ht:∀ C s0 H0 fp,PF (aL X scope (own++frn) C s0 H0 fp) ifs tt)
  (he:∀ C s0 H0 fp,PE (aL X scope (own++frn) C s0 H0 fp) elt te) (hs:∀ x,foldedSetIterable d X.env x=pure x:=by intro _; rfl) :
  PE X (.ListComp elt [⟨tg,d,ifs,0⟩] scope pos) (aBG own.length fr td g tt te):=by
 intro pins s σ H Q I h
 refine aAI (iI S hc (vE (aCu hi)) hg ht he hs) pins s σ H Q I ⟨_,h,fun x H1 q=>?_⟩
 obtain ⟨a,kvs,ex,hx,k⟩:=q
 refine ⟨a,kvs,ex,hx,fun o nf=>?_⟩
 obtain ⟨W,w0,wk⟩:=k o
 refine ⟨W,w0,fun i m ys σ' H' w=>?_⟩
 rcases wk i m ys σ' H' w with ⟨st,q⟩ | z
 ·refine .inl ⟨st,fun p hp=>⟨a,o,kvs,?_,nf,q p hp⟩⟩
  rw [aD (fun z=>by rw [<- z,st.1] at hp; cases hp)]
  exact st.1
 ·exact .inr z
end
theorem wV {a:Addr} {o:Obj} {kvs:List (Key×V)} {own:Nat} {fr:List Nat} {g:TG} {tt:TT} {te:TE} {σ:St} {H:Hp} {Q:Hp->List V->Prop} (SH:St->Prop) (Pv:Nat->List V->Hp->Prop) (hn:kvs.length<=sizeLine) (hσ:SH (blk own fr σ)) (h0:Pv 0 [] H) (hlen:∀ i ys H,Pv i ys H->ys.length<=i) (hl:∀ i ys H,Pv i ys H->H a=some (.frz o (.dK kvs)))
  (hs:∀ i ys σ p H,kvs[i]?=some p->SH σ->Pv i ys H->ys.length < sizeLine->g (kV p.1) σ H fun σ2 H2=>tt σ2 H2 fun b H3=>if b=true then te σ2 H3 fun y H4=>ys.length < sizeLine/\SH σ2/\Pv (i+1) (ys++[y]) H4 else SH σ2/\Pv (i+1) ys H3)
  (hd:∀ ys H,Pv kvs.length ys H->Q H ys) :
  ∃ W:Nat->Nat->List V->St->Hp->Prop,(∃ m,W 0 m [] (blk own fr σ) H)/\∀ i m ys σ' H,W i m ys σ' H ->
   ((Itd a o kvs).stop i H/\Q H ys) ∨
   ((Itd a o kvs).go i H/\∃ N:List V->St->Hp->Prop,(∀ ys' σ2 H2,N ys' σ2 H2->∃ m',m' < m/\W (i+1) m' ys' σ2 H2) /\
    ∀ x H',(Itd a o kvs).yld i H x H'->g x σ' H' fun σ2 H2=>tt σ2 H2 fun b H3=>if b=true then te σ2 H3 fun y H4=>ys.length < sizeLine/\N (ys++[y]) σ2 H4 else N ys σ2 H3):=by
 refine qL kvs.length hn SH Pv hσ h0 hlen (fun ys H p=>⟨hl _ _ _ p,rfl⟩) (fun i ys H hi p=>⟨hl _ _ _ p,hi⟩) (fun i ys σ x H H' hi sh p y hz=>?_) hd
 obtain ⟨rfl,v,hv,rfl⟩:=y
 exact hs i ys σ v _ hv sh p hz
theorem wW {K:PySem.W.Frag} {a:Addr} {xs:List V} {own:Nat} {fr:List Nat} {g:TG} {tt:TT} {tk tv:TE} {σ:St} {H:Hp} {Q:Hp->List (Key×V)->Prop} (SH:St->Prop) (Pv:Nat->List (Key×V)->Hp->Prop) (hn:xs.length<=sizeLine) (hσ:SH (blk own fr σ)) (h0:Pv 0 [] H) (hlen:∀ i ys H,Pv i ys H->ys.length<=i) (hl:∀ i ys H,Pv i ys H->SqT K H a xs)
  (hs:∀ i ys σ x H,xs[i]?=some x->SH σ->Pv i ys H->ys.length < sizeLine->g x σ H fun σ2 H2=>tt σ2 H2 fun b H3=>if b=true then tk σ2 H3 fun x H4=>tv σ2 H4 fun y H5=>∃ k,x=kV k/\ys.length < sizeLine/\SH σ2/\Pv (i+1) (dF ys k y) H5 else SH σ2/\Pv (i+1) ys H3)
  (hd:∀ ys H,Pv xs.length ys H->Q H ys) :
  ∃ W:Nat->Nat->List (Key×V)->St->Hp->Prop,(∃ m,W 0 m [] (blk own fr σ) H)/\∀ i m ys σ' H,W i m ys σ' H ->
   ((Itt K a).stop i H/\Q H ys) ∨
   ((Itt K a).go i H/\∃ N:List (Key×V)->St->Hp->Prop,(∀ ys' σ2 H2,N ys' σ2 H2->∃ m',m' < m/\W (i+1) m' ys' σ2 H2) /\
    ∀ x H',(Itt K a).yld i H x H'->g x σ' H' fun σ2 H2=>tt σ2 H2 fun b H3=>if b=true then tk σ2 H3 fun x H4=>tv σ2 H4 fun y H5=>∃ k,x=kV k/\ys.length < sizeLine/\N (dF ys k y) σ2 H5 else N ys σ2 H3):=by
 refine ⟨fun i m ys σ' H=>m=xs.length - i/\i<=xs.length/\SH σ'/\Pv i ys H,⟨xs.length,by simp,Jz _,hσ,h0⟩,?_⟩
 rintro i m ys σ' H ⟨rfl,hi,sh,p⟩
 by_cases hlt:i < xs.length
 ·refine .inr ⟨⟨xs,xs[i],hl _ _ _ p,Qb hlt⟩,fun ys' σ2 H2=>SH σ2/\Pv (i+1) ys' H2,fun ys' σ2 H2 q=>⟨xs.length - (i+1),by omega,rfl,hlt,q.1,q.2⟩,fun x H' y=>?_⟩
  obtain ⟨e,y⟩:=y
  subst e
  exact hs i ys σ' x _ (y xs (hl _ _ _ p)) sh p (by have:=hlen i ys _ p; omega)
 ·have e:i=xs.length:=by omega
  subst e
  exact .inl ⟨⟨xs,hl _ _ _ p,Qi _⟩,hd ys H p⟩
section
variable {X:Cx}
end
section
variable {P:Program} {w:World} {A:Around} {E:Value->Shared->Prop} {s:Shared} {it d:Addr} {i ep:Nat} {es:Array DictEntry} {ob:Obj}
end
section
variable {X:Cx} {pins:List (Addr×Obj)} {σ:St} {H:Hp} {s:Shared} {a:Addr}
end
theorem KT.length {H:Hp} {kvs:List (List Key×V)} {xs:List (List Key×Addr×Value)} (r:KT H kvs xs):kvs.length=xs.length:=by
 induction r with
 | nil=>rfl
 | cons _ _ ih=>rw [Qz,Qz,ih]
theorem KT.at {H:Hp} {kvs:List (List Key×V)} {xs:List (List Key×Addr×Value)} (r:KT H kvs xs):∀ {i:Nat} {p:List Key×V} {x:List Key×Addr×Value},kvs[i]?=some p->xs[i]?=some x->p.1=x.1/\H x.2.1=some (.tup (p.1.map kV)):=by
 induction r with
 | nil=>intro i p x h; simp at h
 | cons h1 _ ih =>
  intro i p x hp hx
  cases i with
  | zero =>
   simp only [Yf,Option.some.injEq] at hp hx
   subst hp hx
   exact ⟨h1.1,h1.2.1⟩
  | succ j =>
   simp only [Xl] at hp hx
   exact ih hp hx
section
variable {X:Cx} {tg:Expr}
end
section
variable {X:Cx} {pos:Pos} {ek ev:Expr} {tk tv:TE}
end
abbrev KE:=List Key×Addr×V
def Kp (ys:List KE) (H:Hp):Prop:=∀ e∈ys,H e.2.1=some (.tup (e.1.map kV))
def KY (ys:List KE) (its:List (List Key×Addr×Value)):Prop:=Paired (fun (p:KE) (q:List Key×Addr×Value)=>p.1=q.1/\p.2.1=q.2.1/\aQ p.2.2 q.2.2) ys its
def DH (P:Program) (w:World) (h:Heap) (D:Addr) (its:List (List Key×Addr×Value)):Prop:=∃ o es ep,h.get? D=some o/\o.ExactDict/\o.data=.dict es ep/\es.toList=its.map (entryOfKey (tupleKind (aP P w)))/\(its.map (·.1)).Nodup
theorem Kp.wr {ys:List KE} {H:Hp} {D:Addr} {o:HO} (h:Kp ys H) (n:H D=none):Kp ys (upd H D o):=fun e he=>by
 rw [aD (fun z=>by have q:=h e he; rw [z,n] at q; cases q)]
 exact h e he
theorem KY.length {ys:List KE} {its:List (List Key×Addr×Value)} (r:KY ys its):ys.length=its.length:=by
 induction r with
 | nil=>rfl
 | cons _ _ ih=>rw [Qz,Qz,ih]
theorem KY.snoc {ys:List KE} {its:List (List Key×Addr×Value)} {k:List Key} {b:Addr} {y:V} {v:Value} (r:KY ys its) (h:aQ y v):KY (ys++[(k,b,y)]) (its++[(k,b,v)]):=by
 induction r with
 | nil=>exact .cons ⟨rfl,rfl,h⟩ .nil
 | cons h1 _ ih=>exact .cons h1 ih
theorem KY.keys {ys:List KE} {its:List (List Key×Addr×Value)} (r:KY ys its):ys.map (·.1)=its.map (·.1):=by
 induction r with
 | nil=>rfl
 | cons h1 _ ih=>rw [Qu,Qu,ih,h1.1]
theorem DH.at {P:Program} {w:World} {h h':Heap} {D:Addr} {its:List (List Key×Addr×Value)} (d:DH P w h D its) (k:∀ o,h.get? D=some o->h'.get? D=some o):DH P w h' D its:=let ⟨o,es,ep,h1,r⟩:=d; ⟨o,es,ep,k _ h1,r⟩
theorem DH.of {P:Program} {w:World} {h:Heap} {D:Addr} {its:List (List Key×Addr×Value)} (d:h.DictOfH (tupleKind (aP P w)) D its):DH P w h D its:=let ⟨o,es,ep,h1,h2,h3,h4,_,h5⟩:=d; ⟨o,es,ep,h1,h2,h3,h4,h5⟩
section
variable {X:Cx} {scope:Scope} {own frn:List Str} {fr:List Nat} {kx vx tg iter:Expr} {ifs:List Expr} {pos:Pos} {wi:TI} {g:TG} {tt:TT} {tk tv:TE}
end
section
variable {X:Cx} {scope:Scope} {own frn:List Str} {fr:List Nat} {e elt kx vx tg d:Expr} {ifs:List Expr} {pos:Pos} {t td:TE} {g:TG} {tt:TT} {te tk tv:TE}
end
section
variable {P:Program} {w:World} {A:Around} {E:Value->Shared->Prop} {s:Shared} {it d v:Addr} {i ep:Nat} {es:Array DictEntry} {ob:Obj}
end
theorem KT.vals {H:Hp} {kvs:List (List Key×V)} {xs:List (List Key×Addr×Value)} (r:KT H kvs xs):∀ {i:Nat} {p:List Key×V} {x:List Key×Addr×Value},kvs[i]?=some p->xs[i]?=some x->aQ p.2 x.2.2:=by
 induction r with
 | nil=>intro i p x h; simp at h
 | cons h1 _ ih =>
  intro i p x hp hx
  cases i with
  | zero =>
   simp only [Yf,Option.some.injEq] at hp hx
   subst hp hx
   exact h1.2.2
  | succ j =>
   simp only [Xl] at hp hx
   exact ih hp hx
section
variable {X:Cx} {o:Expr} {to:TE} {p apos cpos pos:Pos}
end
structure KsU (ks:List (Int×Tok)) (ns:List Int):Prop where
 nd:(ks.map (·.1)).Nodup
 mem:∀ k,k∈ks.map (·.1)↔k∈ns
theorem vJ:∀ {l m:List Int},l.Nodup->(∀ x∈l,x∈m)->l.length<=m.length
 | [],m,_,_=>Jz _
 | x::l,m,h,k=>by
  obtain ⟨h1,h2⟩:=Je.mp h
  have hx:=k x (Qr ..)
  have hl:=vJ (l:=l) (m:=m.erase x) h2 fun y hy=>(Wr (a:=y) (b:=x) (fun e=>h1 (by rw [<- e]; exact hy))).mpr (k y (Qq _ hy))
  have he:=Zz hx
  have hp:0 < m.length:=Yi hx
  rw [Qz]
  omega
theorem KsU.few {ks:List (Int×Tok)} {ns U:List Int} (h:KsU ks ns) (hU:U.length<=11) (k:∀ n∈ns,n∈U):ks.length<=11:=by
 have:=vJ h.nd fun x hx=>k x ((h.mem x).mp hx)
 rw [Qd] at this
 omega
theorem KsU.old {ks:List (Int×Tok)} {ns:List Int} {k:Int} (h:KsU ks ns) (q:∃ p∈ks,p.1=k):KsU ks (ns++[k]):=⟨h.nd,fun x=>by
 rw [h.mem,Jq,Qm]
 refine ⟨.inl,fun z=>?_⟩
 rcases z with z | z
 ·exact z
 ·obtain ⟨p,hp,e⟩:=q
  rw [z,<- e]
  exact (h.mem _).mp (Js.mpr ⟨p,hp,rfl⟩)⟩
theorem KsU.new {ks:List (Int×Tok)} {ns:List Int} {k:Int} {t:Tok} (h:KsU ks ns) (q:∀ p∈ks,p.1≠k):KsU ((k,t)::ks) (ns++[k]):=⟨by
 rw [Qu]
 refine Je.mpr ⟨fun m=>?_,h.nd⟩
 obtain ⟨p,hp,e⟩:=Js.mp m
 exact q p hp e,fun x=>by
 rw [Qu,Qs,h.mem,Jq,Qm]
 exact Or.comm⟩
section
variable {prog:Program} {w:World} {A:Around} {E:Value->Shared->Prop} {s:Shared} {L:Bool} {a:Addr}
end
section
variable {X:Cx} {scope:Scope} {own frn:List Str} {fr:List Nat} {elt tg iter:Expr} {ifs:List Expr} {pos:Pos} {wi:TI} {g:TG} {tt:TT} {te:TE}
end
section
variable {X:Cx} {scope:Scope} {own frn:List Str} {fr:List Nat} {elt tg d:Expr} {ifs:List Expr} {pos:Pos} {td:TE} {g:TG} {tt:TT} {te:TE}
end
section
variable {X:Cx} {K:PySem.W.Frag}
end
section
variable {X:Cx}
end
section
variable {X:Cx} {K:PySem.W.Frag}
end
section
variable {X:Cx}
end
structure ZSt (k1 k2:Sk) (z TI TO i1 i2 l1 l2:Addr) (i:Nat) (h:Heap):Prop where
 zp:∃ f0 f1,F0 f0/\cS h z TI TO f0 f1
 ti:IsPair h TI (.ref i1) (.ref i2)
 to:∃ x y,IsPair h TO x y
 a1:ItK k1 h i1 l1 i
 a2:ItK k2 h i2 l2 i
theorem ZSt.keep {k1 k2:Sk} {z TI TO i1 i2 l1 l2:Addr} {i:Nat} {h h':Heap} (st:ZSt k1 k2 z TI TO i1 i2 l1 l2 i h) (k:∀ c∈[z,TI,TO,i1,i2],∀ o,h.get? c=some o->h'.get? c=some o):ZSt k1 k2 z TI TO i1 i2 l1 l2 i h':=by
 obtain ⟨⟨f0,f1,hf,hz⟩,hTI,⟨x,y,hTO⟩,h1,h2⟩:=st
 exact ⟨⟨f0,f1,hf,k z (by simp) _ hz⟩,k TI (by simp) _ hTI,⟨x,y,k TO (by simp) _ hTO⟩,h1.at fun o e=>k i1 (by simp) o e,h2.at fun o e=>k i2 (by simp) o e⟩
theorem ZSt.lt {k1 k2:Sk} {z TI TO i1 i2 l1 l2:Addr} {i:Nat} {h:Heap} (st:ZSt k1 k2 z TI TO i1 i2 l1 l2 i h):∀ c∈[z,TI,TO,i1,i2],c < h.objs.size:=by
 intro c hc
 obtain ⟨⟨f0,f1,hf,hz⟩,hTI,⟨x,y,hTO⟩,h1,h2⟩:=st
 simp only [Qs,Qy,or_false] at hc
 rcases hc with rfl | rfl | rfl | rfl | rfl
 ·exact Qk hz
 ·exact Qk hTI
 ·exact Qk hTO
 ·obtain ⟨o,e,_⟩:=h1.obj; exact Qk e
 ·obtain ⟨o,e,_⟩:=h2.obj; exact Qk e
def Prs (H:Hp) (xs ys zs:List V):Prop:=∀ (j:Nat) (z:V),zs[j]?=some z->∃ q x y,z=.ref q/\xs[j]?=some x/\ys[j]?=some y/\H q=some (.tup [x,y])
def aBH (S:Addr) (H H':Hp):Prop:=∀ b o,b≠S->H b=some o->H' b=some o
theorem aBH.sq {k:Sk} {K:PySem.W.Frag} {S l:Addr} {H H':Hp} {xs:List V} (e:aBH S H H') (n:l≠S) (h:SqK k K H l xs):SqK k K H' l xs:=by
 cases k
 ·rcases h with (h | ⟨o,h⟩) | h
  ·exact .inl (.inl (e _ _ n h))
  ·exact .inl (.inr ⟨o,e _ _ n h⟩)
  ·exact .inr h
 ·rcases h with (h | ⟨o,h⟩) | h
  ·exact .inl (.inl (e _ _ n h))
  ·exact .inl (.inr ⟨o,e _ _ n h⟩)
  ·exact .inr h
theorem Prs.keep {S:Addr} {H H':Hp} {xs ys zs ws:List V} (h:Prs H xs ys zs) (hS:H S=some (.lst ws)) (e:aBH S H H'):Prs H' xs ys zs:=fun j z hz=>by
 obtain ⟨q,x,y,h1,h2,h3,h4⟩:=h j z hz
 exact ⟨q,x,y,h1,h2,h3,e _ _ (fun c=>by rw [c,hS] at h4; cases h4) h4⟩
section
variable {X:Cx} {pins:List (Addr×Obj)} {σ:St}
end
section
variable {X:Cx}
end
theorem aBb:bootBuiltins "max" = some (.builtin "max"):=by decide +kernel
def aAJ (ys:List KE) (k:List Key):Bool:=ys.any fun e=>decide (e.1=k)
def aAK (ys:List KE) (k:List Key) (b:Addr) (y:V):List KE:=if aAJ ys k=true then ys.map (fun e=>if e.1=k then (e.1,e.2.1,y) else e) else ys++[(k,b,y)]
theorem yY {ys:List KE} {k:List Key}:aAJ ys k=true↔k∈ys.map (·.1):=by
 unfold aAJ
 rw [Zi,Js]
 exact ⟨fun ⟨e,h1,h2⟩=>⟨e,h1,of_decide_eq_true h2⟩,fun ⟨e,h1,h2⟩=>⟨e,h1,decide_eq_true h2⟩⟩
theorem Kp.put {ys:List KE} {H:Hp} {k:List Key} {b:Addr} {y:V} (h:Kp ys H) (hb:H b=some (.tup (k.map kV))):Kp (aAK ys k b y) H:=by
 unfold aAK
 split
 ·intro e he
  obtain ⟨e0,h0,rfl⟩:=Js.mp he
  have:=h e0 h0
  split
  ·exact this
  ·exact this
 ·intro e he
  rcases Jq.mp he with he | he
  ·exact h e he
  ·rw [Qm.mp he]; exact hb
theorem KY.has {ys:List KE} {its:List (List Key×Addr×Value)} {k:List Key} (r:KY ys its):aAJ ys k=(atKey its k).isSome:=by
 rw [Xx,yY,r.keys]
 unfold atKey
 rw [Yj,List.find?_isSome,Js]
 exact ⟨fun ⟨e,h1,h2⟩=>⟨e,h1,decide_eq_true h2⟩,fun ⟨e,h1,h2⟩=>⟨e,h1,of_decide_eq_true h2⟩⟩
theorem KY.mapE {ys:List KE} {its:List (List Key×Addr×Value)} {k:List Key} {y:V} {v:Value} (r:KY ys its) (h:aQ y v):KY (ys.map (fun e=>if e.1=k then (e.1,e.2.1,y) else e)) (its.map (putAt k v)):=by
 induction r with
 | nil=>exact .nil
 | @cons p q ps qs h1 _ ih =>
  refine .cons ?_ ih
  by_cases hk:p.1=k
  ·have e1:(if p.1=k then (p.1,p.2.1,y) else p)=(p.1,p.2.1,y):=if_pos hk
   have e2:putAt k v q=(q.1,q.2.1,v):=if_pos (h1.1 ▸ hk)
   show (if p.1=k then (p.1,p.2.1,y) else p).1=(putAt k v q).1/\(if p.1=k then (p.1,p.2.1,y) else p).2.1=(putAt k v q).2.1/\aQ (if p.1=k then (p.1,p.2.1,y) else p).2.2 (putAt k v q).2.2
   rw [e1,e2]
   exact ⟨h1.1,h1.2.1,h⟩
  ·have e1:(if p.1=k then (p.1,p.2.1,y) else p)=p:=if_neg hk
   have e2:putAt k v q=q:=if_neg (fun z=>hk (h1.1.trans z))
   show (if p.1=k then (p.1,p.2.1,y) else p).1=(putAt k v q).1/\(if p.1=k then (p.1,p.2.1,y) else p).2.1=(putAt k v q).2.1/\aQ (if p.1=k then (p.1,p.2.1,y) else p).2.2 (putAt k v q).2.2
   rw [e1,e2]
   exact h1
theorem KY.stored {ys:List KE} {its:List (List Key×Addr×Value)} {k:List Key} {b:Addr} {y:V} {v:Value} (r:KY ys its) (h:aQ y v):KY (aAK ys k b y) (storedH its k b v):=by
 unfold aAK storedH
 rw [r.has]
 split
 ·exact r.mapE h
 ·exact r.snoc h
section
variable {X:Cx} {scope:Scope} {own frn:List Str} {fr:List Nat} {kx vx tg iter:Expr} {ifs:List Expr} {pos:Pos} {wi:TI} {g:TG} {tt:TT} {tk tv:TE}
end
section
variable {K:PySem.W.Frag} {own:Nat} {fr:List Nat} {g g2:TG} {te:TE} {wi2:TI} {σ:St} {H:Hp} {Q:Hp->List V->Prop}
end
section
variable {X:Cx} {scope:Scope} {own frn:List Str} {fr:List Nat} {elt tg iter tg2 iter2:Expr} {pos:Pos} {wi wi2:TI} {g g2:TG} {te:TE}
end
section
variable {X:Cx} {pins:List (Addr×Obj)} {σ:St}
end
section
variable {prog:Program} {w:World} {A:Around} {R:Result->Shared->Prop} {s:Shared} {kx vx tg iter tg2 iter2:Expr} {scope:Scope} {pos:Pos} {it:Value} {D:Addr} {env:Env}
end
section
variable {X:Cx} {scope:Scope} {own frn:List Str} {fr:List Nat} {kx vx tg iter tg2 iter2:Expr} {pos:Pos} {wi wi2:TI} {g g2:TG} {tk tv:TE}
end
section
variable {K:PySem.W.Frag} {own:Nat} {fr:List Nat} {g:TG} {wi2:TI} {g2:TG} {tk tv:TE} {σ:St} {H:Hp} {Q:Hp->List (Key×V)->Prop}
end
section
variable {prog:Program} {w:World} {A:Around} {E:Value->Shared->Prop} {s:Shared} {z TI TO i1 i2 i3 l1 l2 l3:Addr} {n n2 n3:Nat} {P1 P2 P3:Nat->Value->Prop} {st1 st2 st3:Nat->Heap->Prop}
end
structure ZSt3 (k1 k2 k3:Sk) (z TI TO i1 i2 i3 l1 l2 l3:Addr) (i:Nat) (h:Heap):Prop where
 zp:∃ f0 f1,F0 f0/\cS h z TI TO f0 f1
 ti:aBa h TI (.ref i1) (.ref i2) (.ref i3)
 to:∃ x y v,aBa h TO x y v
 a1:ItK k1 h i1 l1 i
 a2:ItK k2 h i2 l2 i
 a3:ItK k3 h i3 l3 i
theorem ZSt3.keep {k1 k2 k3:Sk} {z TI TO i1 i2 i3 l1 l2 l3:Addr} {i:Nat} {h h':Heap} (st:ZSt3 k1 k2 k3 z TI TO i1 i2 i3 l1 l2 l3 i h) (k:∀ c∈[z,TI,TO,i1,i2,i3],∀ o,h.get? c=some o->h'.get? c=some o):ZSt3 k1 k2 k3 z TI TO i1 i2 i3 l1 l2 l3 i h':=by
 obtain ⟨⟨f0,f1,hf,hz⟩,hTI,⟨x,y,v,hTO⟩,h1,h2,h3⟩:=st
 exact ⟨⟨f0,f1,hf,k z (by simp) _ hz⟩,k TI (by simp) _ hTI,⟨x,y,v,k TO (by simp) _ hTO⟩,h1.at fun o e=>k i1 (by simp) o e,h2.at fun o e=>k i2 (by simp) o e,h3.at fun o e=>k i3 (by simp) o e⟩
theorem ZSt3.lt {k1 k2 k3:Sk} {z TI TO i1 i2 i3 l1 l2 l3:Addr} {i:Nat} {h:Heap} (st:ZSt3 k1 k2 k3 z TI TO i1 i2 i3 l1 l2 l3 i h):∀ c∈[z,TI,TO,i1,i2,i3],c < h.objs.size:=by
 intro c hc
 obtain ⟨⟨f0,f1,hf,hz⟩,hTI,⟨x,y,v,hTO⟩,h1,h2,h3⟩:=st
 simp only [Qs,Qy,or_false] at hc
 rcases hc with rfl | rfl | rfl | rfl | rfl | rfl
 ·exact Qk hz
 ·exact Qk hTI
 ·exact Qk hTO
 ·obtain ⟨o,e,_⟩:=h1.obj; exact Qk e
 ·obtain ⟨o,e,_⟩:=h2.obj; exact Qk e
 ·obtain ⟨o,e,_⟩:=h3.obj; exact Qk e
section
variable {X:Cx} {pins:List (Addr×Obj)} {σ:St}
end
section
variable {prog:Program} {w:World} {A:Around} {E:Value->Shared->Prop} {s:Shared}
end
section
variable {X:Cx} {pins:List (Addr×Obj)} {σ:St} {H:Hp} {s:Shared}
theorem Inv.again {t':Nat} {h':Heap} {m:Str->Option Value} (I:Inv X pins σ H s) (hn:s.heap.Ns X.env.locals m) (hn':h'.Ns X.env.locals m) (k:∀ b u,b≠X.env.locals->s.heap.get? b=some u->h'.get? b=some u):Inv X pins σ H { s with heap:=h',toks:=t' }:=by
 obtain ⟨m0,hn0,hl⟩:=id I.loc
 have cne:=I.cne
 have em:∀ x,m0 x=m x:=fun x=>by
  obtain ⟨o1,es1,ep1,a1,b1,_,d1⟩:=hn0
  obtain ⟨o2,es2,ep2,a2,b2,_,d2⟩:=hn
  rw [a1] at a2; cases a2
  rw [b1] at b2; cases b2
  rw [<- d1,<- d2]
 have tr:HOk X.prog X.w H h':=fun b ob e=>by
  refine (I.hok b ob e).stay (fun c w' hc q=>k c w' ?_ q) (fun _ q=>q) fun _ _ q=>q
  rintro rfl
  rcases hc with rfl | hc
  ·rw [I.free] at e; cases e
  ·rw [I.free] at hc; cases hc
 refine ⟨I.ok,I.os,I.bare,⟨fun b o e n hb hx=>?_,fun b o e n hb hx=>?_,I.base.free,fun b o e hx=>?_,I.base.tups,I.base.frzs,I.base.tbls⟩,⟨_,hn',fun j y v' e1 e2 e3=>?_⟩,fun y c e=>?_,I.free,I.freeC,fun p hp=>?_,tr,I.len⟩
 ·exact k b _ (Jd (Qo (Qk e) I.ok.above)) (I.base.keep b o e n hb hx)
 ·obtain ⟨sl,e1⟩:=I.base.slot b o e n hb hx
  exact ⟨sl,k b _ (Jd (Qo (Qk e) I.ok.above)) e1⟩
 ·obtain ⟨o',e1⟩:=I.base.there b o e hx
  exact ⟨o',k b _ (Jd (Qo (Qk e) I.ok.above)) e1⟩
 ·obtain ⟨u',r',q⟩:=hl j y v' e1 e2 e3
  refine ⟨u',r',?_⟩
  rcases q with ⟨kk,e⟩ | ⟨kk,c,e,o,z1,z2⟩
  ·exact .inl ⟨kk,by rw [<- em]; exact e⟩
  ·exact .inr ⟨kk,c,e,o,k c _ (cne y c e) z1,z2⟩
 ·obtain ⟨w',o,z1,z2⟩:=I.cell y c e
  exact ⟨w',o,k c _ (cne y c e) z1,z2⟩
 ·obtain ⟨e,n,ne,nf,d⟩:=I.pin p hp
  exact ⟨k _ _ ne e,n,ne,nf,d⟩
theorem bB.there {P:Program} {w:World} {H:Hp} {h:Heap} {a:Addr} {o:HO} (x:bB P w H h a o):∃ u,h.get? a=some u:=by
 cases o with
 | lst xs=>obtain ⟨_,_,_,_,e⟩:=x; exact ⟨_,e⟩
 | tup xs=>obtain ⟨_,_,_,_,e⟩:=x; exact ⟨_,e⟩
 | dK kvs=>obtain ⟨_,_,_,_,o,_,_,e,_⟩:=x; exact ⟨_,e⟩
 | dT kvs=>obtain ⟨_,_,_,_,o,_,_,e,_⟩:=x; exact ⟨_,e⟩
 | set S n=>obtain ⟨o,_,_,_,e,_⟩:=x; exact ⟨_,e⟩
 | ins C dx fs=>obtain ⟨_,_,_,e,_⟩:=x; exact ⟨_,e⟩
 | own y=>obtain ⟨_,e⟩:=x; exact ⟨_,e⟩
 | xd fs=>obtain ⟨_,⟨_,_,_,e,_⟩,_⟩:=x; exact ⟨_,e⟩
 | rng lo hi=>obtain ⟨_,_,_,e⟩:=x; exact ⟨_,e⟩
 | frz ob u=>obtain ⟨e,_⟩:=x; exact ⟨_,e⟩
 | tbl ps=>exact ⟨_,(show h.get? a=some _ from x)⟩
 | tab q=>obtain ⟨_,e,_⟩:=x; exact ⟨_,e⟩
 | met f y=>exact ⟨_,(show h.get? a=some _ from x)⟩
 | ext φ=>obtain ⟨p,⟨o,e⟩,st⟩:=x; exact ⟨_,e⟩
end
section
variable {X:Cx}
end
end L2
namespace L2
open PySem PySem.Spec PyProof.Rows PyProof.V
structure M1 (X:Cx) (o:Expr) (m:Str) (apos:Pos) (e:Expr) (cpos:Pos):Prop where
 base:attributeBase o m X.env (eval o X.env)=eval o X.env
 few:((backTo cpos (starEach [e] X.env)).all (fun x=>!x.1) && (backToKw cpos (keywordEach [] X.env)).all (fun x=>x.1.isSome)
  && decide (([e]:List Expr).length+([]:List Keyword).length+(if ([]:List Keyword).isEmpty then 0 else 1) < 30))=true
 line:(apos.endLine==cpos.line)=true
 trees:backTo cpos (starEach [e] X.env) = [(false,eval e X.env)]
structure M2 (X:Cx) (o:Expr) (m:Str) (apos:Pos) (e f:Expr) (cpos:Pos):Prop where
 base:attributeBase o m X.env (eval o X.env)=eval o X.env
 few:((backTo cpos (starEach [e,f] X.env)).all (fun x=>!x.1) && (backToKw cpos (keywordEach [] X.env)).all (fun x=>x.1.isSome)
  && decide (([e,f]:List Expr).length+([]:List Keyword).length+(if ([]:List Keyword).isEmpty then 0 else 1) < 30))=true
 line:(apos.endLine==cpos.line)=true
 trees:backTo cpos (starEach [e,f] X.env) = [(false,eval e X.env),(false,eval f X.env)]
def IsD (H:Hp) (a:Addr):Prop:=(∃ kvs,Rd H a (.dK kvs))∨∃ kvs,Rd H a (.dT kvs)
theorem aBI {X:Cx} {pins:List (Addr×Obj)} {σ:St} {H:Hp} {s:Shared} {a:Addr} (I:Inv X pins σ H s) (d:IsD H a) :
  s.TypeIs (.ref a) "dict" /\ (∀ b,Value.ref a=.ref b->∃ ob,s.heap.get? b=some ob/\ob.dict=none)/\(a==sysModules)=false:=by
 rcases d with ⟨kvs,e⟩ | ⟨kvs,e⟩
 ·obtain ⟨_,hd,vs,_,dd⟩:=gY I.hok e
  refine ⟨dd.typeIs,fun b q=>?_,hd⟩
  cases q
  obtain ⟨ob,_,_,h1,h2,_⟩:=dd
  exact ⟨ob,h1,h2.2.1⟩
 ·obtain ⟨_,hd,xs,_,dd⟩:=pH I.hok e
  refine ⟨dd.typeIs,fun b q=>?_,hd⟩
  cases q
  obtain ⟨ob,_,_,h1,h2,_⟩:=dd
  exact ⟨ob,h1,h2.2.1⟩
section
variable {X:Cx} {pins:List (Addr×Obj)} {σ:St} {H:Hp} {s:Shared} {a:Addr} {y d:V} {u r:Value} {o:Option V} {A:Around} {E:Value->Shared->Prop}
end
def aBJ (td ty:TE):TE:=fun σ H Q=>td σ H fun x H1=>∃ a,x=.ref a/\IsD H1 a/\ty σ H1 fun y H2=>∃ kvs k v,H2 a=some (.dK kvs)/\y=kV k/\bJ kvs k=some v/\Q v (upd H2 a (.dK (kX kvs k)))
section
variable {X:Cx} {o e f:Expr} {apos cpos:Pos} {td ty tx:TE}
theorem sS (ho:PE X o td) (he:PE X e ty) (m:M1 X o "pop" apos e cpos):PE X (.Call (.Attribute o "pop" apos) [e] [] cpos) (aBJ td ty):=by
 intro pins s σ H Q I h
 refine wpAny_Call_method m.base m.few m.line PySem.F.plainAttrs_dict PySem.F.slot_dict_pop PySem.F.type_dict_pop (thn (ho pins s σ H _ I h) fun u s1 hx9=>?_)
 obtain ⟨x,H1,I1,rx,a,ex,d,q1⟩:=hx9
 subst ex
 obtain rfl:u=Value.ref a:=rx
 obtain ⟨t1,t2,_⟩:=aBI I1 d
 refine ⟨t1,t2,?_⟩
 rw [m.trees]
 refine Calls.callWith_builtin rfl (Calls.evalArgs_plain (Calls.spliced_cons (thn (he pins s1 σ H1 _ I1 q1) fun iv s2 ⟨y,H2,I2,ry,kvs,k,v,ea,ey,l,q2⟩=>Calls.spliced_nil ?_)))
 subst ey
 exact aCn I2 ea ry l (.inl rfl) fun w' s3 I3 rw'=>⟨v,_,I3,rw',q2⟩
end
section
variable {X:Cx} {pins:List (Addr×Obj)} {σ:St} {H:Hp} {s:Shared} {a:Addr} {kvs:List (Key×V)} {A:Around} {E:Value->Shared->Prop}
theorem yZ {Q:Value->Shared->Prop} (I:Inv X pins σ H s) (e:Rd H a (.dK kvs)) (h:∀ p s',H p=none->Inv X pins σ (upd H p (.dK kvs)) s'->Q (.ref p) s'):wpAny (model X.prog X.w) A (call (.type "dict") [.ref a]) Q E s:=by
 obtain ⟨z,hd,vs,rel,dd⟩:=gY I.hok e
 refine kt_call_dict hd dd (by rw [<- rel.length]; exact z) fun h' dd' hs=>?_
 refine h _ _ (I.hok.fresh (Qi _)) (I.laid (a:=s.heap.objs.size) (o:=.dK kvs) (t':=s.toks) (fun b q hq=>?_) (Qi _) (qM z (beq_eq_false_iff_ne.mpr (Ne.symm (Jd I.big))) rel dd'))
 exact (hs.2 b (Jd (Qk hq))).trans (Qc _ hq)
end
section
variable {X:Cx}
theorem wX:dA X (.builtin "len") (fun xs H Q=>∃ a kvs,xs = [V.ref a]/\H a=some (.dK kvs)/\Q (.int kvs.length) H):=by
 intro pins s σ H xs us Q I r h
 obtain ⟨a,kvs,rfl,ha,q⟩:=h
 obtain ⟨u,rfl,ru⟩:=eK r
 cases ru
 exact aCo I (.inl ha) fun t s' I'=>⟨.int kvs.length,H,I',⟨t,rfl⟩,q⟩
end
end L2
namespace L2
open PySem PySem.Spec PyProof.Rows PySem.W
def VwO (p d:Addr):HO:=.ext fun h=>h.IsValuesView p d
theorem aCv {P:Program} {w:World} {H:Hp} {h:Heap} {p d:Addr} (v:h.IsValuesView p d):bB P w H h p (VwO p d) :=
 ⟨v,let ⟨o,ho,_⟩:=v; ⟨o,ho⟩,fun h1 h2 ⟨o,ho,r⟩ k=>⟨o,k o ho,r⟩⟩
section
variable {X:Cx}
theorem pJ:MtR X "dict.values" (fun x vs H Q=>∃ (a:Addr) (kvs:List (Key×V)),x=.ref a/\vs = []/\Rd H a (.dK kvs)/\∀ p,H p=none->Q (.ref p) (upd H p (VwO p a))):=by
 intro pins s σ H x vs v us Q I rx rv h
 obtain ⟨a,kvs,rfl,rfl,e,q⟩:=h
 cases rx
 cases rv
 obtain ⟨z,hd,xs,rel,dd⟩:=gY I.hok e
 refine call_meetsIn PySem.F.slot_dict_values dd.typeIs PySem.F.entry_dict_values (PySem.F.args_dict_values_1 _) (meets_dict_values (aP X.prog X.w) a hd) ⟨⟨_,dd⟩,?_⟩
 have hf:=I.hok.fresh (Qi s.heap.objs.size)
 have I2:Inv X pins σ (upd H s.heap.objs.size (VwO s.heap.objs.size a)) { s with heap:=s.heap.push { cls:=.type "dict_values",data:=.fields #[.ref a] } } :=
  I.laid (t':=s.toks) (fun b o e=>Qc _ e) (Qi _) (aCv ⟨_,Ql _ rfl,rfl,rfl⟩)
 exact ⟨.ref s.heap.objs.size,_,I2,rfl,q _ hf⟩
theorem zC {kvs:List (Key×V)} {vs:List (Key×Value)} (r:KV kvs vs) {i:Nat} {q:Key×Value} (h:vs[i]?=some q):∃ p,kvs[i]?=some p/\p.1=q.1/\aQ p.2 q.2:=by
 unfold KV at r
 induction r generalizing i with
 | nil=>simp at h
 | cons h1 _ ih =>
  cases i with
  | zero=>simp only [Yf,Option.some.injEq] at h ⊢; subst h; exact ⟨_,rfl,h1⟩
  | succ j=>simp only [Xl] at h ⊢; exact ih h
theorem uL {kvs:List (Key×V)} {vs:List (Key×Value)} (r:KV kvs vs) {acc:Array Value} (h:ItemsOf (fun i v=>∃ k,vs[i]?=some (k,v)) acc vs.length):aO (kvs.map (·.2)) acc.toList:=by
 refine lJ (by rw [Qd,show acc.toList.length=vs.length from (Array.length_toList).trans h.1]; exact r.length) fun j x u hx hu=>?_
 obtain ⟨k,hk⟩:=h.2 j u (by rw [<- Array.getElem?_toList]; exact hu)
 obtain ⟨p,hp,_,rp⟩:=zC r hk
 rw [Qg,hp] at hx
 cases hx
 exact rp
theorem uM {P:Program} {w:World} {kvs:List (Key×V)} {vs:List (Key×Value)} (r:KV kvs vs) {acc:Array Value} (h:ItemsOf (fun i v=>∃ k x,vs[i]?=some (k,x)/\(aP P w).is k v=true) acc vs.length):aO (kvs.map fun kv=>kV kv.1) acc.toList:=by
 refine lJ (by rw [Qd,show acc.toList.length=vs.length from (Array.length_toList).trans h.1]; exact r.length) fun j x u hx hu=>?_
 obtain ⟨k,y,hk,hi⟩:=h.2 j u (by rw [<- Array.getElem?_toList]; exact hu)
 obtain ⟨p,hp,ek,_⟩:=zC r hk
 rw [Qg,hp] at hx
 cases hx
 show aQ (kV p.1) u
 rw [ek]
 exact mT hi
theorem jO (hc:X.calm=true):dA X (.type "list") (fun xs H Q=>∃ (a:Addr) (kvs:List (Key×V)),xs = [.ref a]/\Rd H a (.dK kvs)/\∀ p,H p=none->Q (.ref p) (upd H p (.lst (kvs.map fun kv=>kV kv.1)))):=by
 intro pins s σ H xs us Q I r h
 obtain ⟨a,kvs,rfl,e,q⟩:=h
 obtain ⟨u,rfl,ru⟩:=eK r
 cases ru
 obtain ⟨z,hd,vs,rel,dd⟩:=gY I.hok e
 obtain ⟨ep,da⟩:=dd.dictAt
 refine kdl_call (kdl_dict (prog:=X.prog) (w:=X.w) (knd:=aP X.prog X.w) (kvs:=vs) (ep:=ep) hd) (I.ok.hd hc) da (by rw [<- rel.length]; exact z) fun h' tk acc c' kp hl hi=>?_
 exact ⟨.ref s.heap.objs.size,_,I.laid (t':=tk) kp (Qi _) (show bB X.prog X.w _ h' _ (.lst _) from ⟨by rw [Qd]; exact z,acc.toList,c',uM rel hi,hl⟩),rfl,q _ (I.hok.fresh (Qi _))⟩
theorem qT:dA X (.type "dict") (fun xs H Q=>∃ (a:Addr) (kvs:List (Key×V)),xs = [.ref a]/\Rd H a (.dK kvs)/\∀ p,H p=none->Q (.ref p) (upd H p (.dK kvs))):=by
 intro pins s σ H xs us Q I r h
 obtain ⟨a,kvs,rfl,e,q⟩:=h
 obtain ⟨u,rfl,ru⟩:=eK r
 cases ru
 exact yZ I e fun p s' hp I'=>⟨.ref p,_,I',rfl,q p hp⟩
end
section
variable {prog:Program} {w:World}
theorem hG {v d : Addr} {kvs : List (Key × Value)} {ep : Nat} (hn : kvs.length <= sizeLine) : MeetsIn prog w (Builtin.«tuple.__new__» ⟨[.type "tuple", .ref v], []⟩) (fun A R s => A.handled = none /\ s.heap.IsValuesView v d /\ s.heap.DictAt (aP prog w) d kvs ep /\ ∀ (h' : Heap) tk (acc : Array Value), (∀ b o', s.heap.get? b = some o' -> h'.get? b = some o') -> ItemsOf (fun i v => ∃ k, kvs[i]? = some (k, v)) acc kvs.length ->
        R (.ok (.ret (.ref h'.objs.size))) { s with heap:=h'.push { cls:=.type "tuple",data:=.seq acc.toList.toArray },toks:=tk }) :=
  .of_wp fun A R s h=>by
   obtain ⟨hp,g,dd,tk,os⟩:=s; obtain ⟨hh,hv,da,h⟩:=h
   have hsub:=sub_tuple_self
   have hinit:=init_tuple_lookup
   have hmh:=madeHere_tuple
   have hT:Shared.TypeIs ⟨hp,g,dd,tk,os⟩ (.ref v) "dict_values" := hv.typeIs
   obtain ⟨ov,hov,hcv,hdv⟩:=id hv
   wp_walk using wpAny_loadPart' hov,wpAny_typeOf hT,kdu_collect (A:=A.in1) (s:=⟨hp,g,dd,tk,os⟩) (kdl_values (prog:=prog) (w:=w) (knd:=aP prog w) (kvs:=kvs) (ep:=ep)) hh ⟨hv,da⟩ hn
   intro h' tk' acc hk hi
   show wpAny _ _ (Builtin.Tuple.tupleExact acc.toList.toArray >>= fun v=>ret v) _ _ _
   unfold Builtin.Tuple.tupleExact
   have hl:=hi.1
   refine wpAny_bind (wpAny_newObj_type ?_ (by show acc.toList.toArray.size<=sizeLine; rw [Array.toArray_toList,hl]; exact hn))
   exact wpAny_pure ⟨_,rfl,h h' tk' acc hk hi⟩
end
section
variable {X:Cx}
theorem gJ (hc:X.calm=true):dA X (.type "tuple") (fun xs H Q=>∃ (v a:Addr) (kvs:List (Key×V)),xs = [.ref v]/\H v=some (VwO v a)/\Rd H a (.dK kvs)/\∀ p,H p=none->Q (.ref p) (upd H p (.tup (kvs.map (·.2))))):=by
 intro pins s σ H xs us Q I r h
 obtain ⟨v,a,kvs,rfl,ev,e,q⟩:=h
 obtain ⟨u,rfl,ru⟩:=eK r
 cases ru
 obtain ⟨z,hd,vs,rel,dd⟩:=gY I.hok e
 obtain ⟨ep,da⟩:=dd.dictAt
 have hv:s.heap.IsValuesView v a:=(show bB X.prog X.w H s.heap v (VwO v a) from I.hok v _ ev).1
 refine callType_newIn PySem.F.called_tuple (by decide) (PySem.F.typeCall_tuple_1 _) (PySem.F.newCall_tuple_1 _) (fun obj=>PySem.F.args_object_init_2 obj _) PySem.F.entry_tuple_new
  (hG (v:=v) (d:=a) (kvs:=vs) (ep:=ep) (by rw [<- rel.length]; exact z)) ⟨I.ok.hd hc,hv,da,fun h' tk acc kp hi=>⟨⟨_,Ql _ rfl,rfl⟩,?_⟩⟩
 have I1:Inv X pins σ H { s with heap:=h',toks:=tk }:=I.kept kp
 have hf:=I1.hok.fresh (Qi _)
 have I2:Inv X pins σ (upd H h'.objs.size (.tup (kvs.map (·.2)))) { s with heap:=h'.push { cls:=.type "tuple",data:=.seq acc.toList.toArray },toks:=tk } :=
  I1.laid (t':=tk) (fun b o e=>Qc _ e) (Qi _) (show bB X.prog X.w _ _ _ (.tup _) from ⟨by rw [Qd]; exact z,acc.toList,0,uL rel hi,Ql _ rfl⟩)
 exact ⟨.ref h'.objs.size,_,I2,rfl,q _ hf⟩
end
end L2
namespace L2
open PySem PySem.Spec PyProof.Rows
section
variable {X:Cx} {tg:Expr}
end
section
variable {X:Cx} {scope:Scope} {own frn:List Str} {fr:List Nat} {e elt tg d:Expr} {ifs:List Expr} {pos:Pos} {t td:TE} {g:TG} {tt:TT} {te:TE}
end
section
variable {X:Cx} {scope:Scope} {own frn:List Str} {fr:List Nat} {kx vx tg d:Expr} {ifs:List Expr} {pos:Pos} {td:TE} {g:TG} {tt:TT} {tk tv:TE}
end
structure SameK (K:PySem.W.Frag) (H:Hp) (k1 k2:List (Key×V)):Prop where
 len:k1.length=k2.length
 int:∀ kv∈k1,∃ i:Int,kv.1=.inl i
 int2:∀ kv∈k2,∃ i:Int,kv.1=.inl i
 val:∀ kv∈k1,∃ u d,bJ k2 kv.1=some u/\Den K H d kv.2/\Den K H d u/\cZ d=true/\SeqAt.shaped d=true
section
variable {X:Cx}
end
structure Fn (K:PySem.W.Frag) (mg:Str->Option Value) (x:Str) (st:Stmt) (ps:List Str) (f:Addr) (fd:FuncData):Prop where
 fn:Fun K x x st f fd
 mgx:mg x=some (.ref f)
 kp:PySem.W.keepIn K (.ref f)=true
 bd:gR K fd ps []
theorem cA {X:Cx} {x:Str} {st:Stmt} {ps:List Str} {f:Addr} {fd:FuncData} {k:Nat} {sp:Sp} {p pos:Pos} {e:Expr} {es:List Expr} {t:TA} (G:Fn X.K X.mg x st ps f fd) (ok:FnOk X.prog X.w X.K X.mg X.base CX0 k f fd ps sp) (hr:Room k X.A) (hg:Gl X x) (ha:PA X (e::es) t)
  (hdb:(x==("__debug__" : Str))=false:=by decide) (he:starEach (e::es) X.env=(false,eval e X.env)::starEach es X.env:=by rfl) (hpl:(backTo pos (starEach es X.env)).any (·.1)=false:=by rfl) :
  PE X (.Call (.Name x p) (e::es) [] pos) (aA3 sp [] E0 t):=aAr ok hr hg G.mgx G.kp G.bd .nil bD ha hdb he hpl
structure Bl (mg:Str->Option Value):Prop where
 isinstance:mg "isinstance" = none
 int:mg "int" = none
 bool:mg "bool" = none
 tuple:mg "tuple" = none
 list:mg "list" = none
 len:mg "len" = none
 all:mg "all" = none
 zip:mg "zip" = none
 range:mg "range" = none
 sorted:mg "sorted" = none
 set:mg "set" = none
 sum:mg "sum" = none
 repr:mg "repr" = none
 enumerate:mg "enumerate" = none
 min:mg "min" = none
 any:mg "any" = none
 dict:mg "dict" = none
 max:mg "max" = none
 hands:∃ t,mg "MOST_HANDS" = some (.int 6 t)
 works:∃ t,mg "MOST_WORKS" = some (.int 12 t)
theorem zD:bootBuiltins "isinstance" = some (.builtin "isinstance"):=by decide +kernel
theorem aCw:bootBuiltins "int" = some (.type "int"):=by decide +kernel
theorem aBK:bootBuiltins "bool" = some (.type "bool"):=by decide +kernel
theorem iJ:bootBuiltins "tuple" = some (.type "tuple"):=by decide +kernel
theorem kK:bootBuiltins "list" = some (.type "list"):=by decide +kernel
theorem eL:bootBuiltins "len" = some (.builtin "len"):=by decide +kernel
theorem aCx:bootBuiltins "all" = some (.builtin "all"):=by decide +kernel
theorem qU:bootBuiltins "range" = some (.type "range"):=by decide +kernel
theorem sT:bootBuiltins "sorted" = some (.builtin "sorted"):=by decide +kernel
end L2
namespace Ab
open PySem L2
def top (i:Nat):Stmt:=PySem.Challenge.pw_ablehands_k44_one_long_way.main.body.getD i (.Pass ⟨0,0,0,0⟩)
abbrev jC:Stmt:=top 9
abbrev kL:Stmt:=top 25
abbrev jP:Stmt:=top 26
abbrev jQ:Stmt:=top 27
abbrev cT:Stmt:=top 21
def eC (s:Stmt):List Stmt:=match s with
 | .ClassDef _ _ _ b _ _ _ _ _ _ _=>b
 | _=>[]
abbrev kZ:Stmt:=(eC cT).getD 0 (.Pass ⟨0,0,0,0⟩)
abbrev mW:Stmt:=(eC cT).getD 1 (.Pass ⟨0,0,0,0⟩)
abbrev hV:Stmt:=(eC cT).getD 2 (.Pass ⟨0,0,0,0⟩)
abbrev iA:Stmt:=(eC cT).getD 3 (.Pass ⟨0,0,0,0⟩)
abbrev sU:Stmt:=(eC cT).getD 4 (.Pass ⟨0,0,0,0⟩)
abbrev lA:Stmt:=(eC cT).getD 5 (.Pass ⟨0,0,0,0⟩)
abbrev pK:Stmt:=(eC cT).getD 6 (.Pass ⟨0,0,0,0⟩)
abbrev mX:Stmt:=(eC cT).getD 9 (.Pass ⟨0,0,0,0⟩)
abbrev jD:Stmt:=(eC cT).getD 10 (.Pass ⟨0,0,0,0⟩)
abbrev iB:Stmt:=(eC cT).getD 12 (.Pass ⟨0,0,0,0⟩)
abbrev mY:Stmt:=top 10
abbrev mZ:Stmt:=top 11
abbrev eS:Stmt:=top 13
abbrev fU:Stmt:=top 15
abbrev iC:Stmt:=top 16
abbrev nB:Stmt:=top 17
abbrev fV:Stmt:=top 18
abbrev jR:Stmt:=top 20
abbrev qV:Stmt:=top 23
abbrev kM:Stmt:=top 24
abbrev zE:Stmt:=top 28
def fA:PyData->Bool
 | .int _=>true
 | _=>false
def eT:PyData->Bool
 | .int i=>decide (1<=i) && decide (i<=6)
 | _=>false
def cF (hands:Int):Int->List PyData->Bool
 | _,[]=>true
 | last,.int i::r=>decide (last < i) && decide (i < hands) && cF hands i r
 | _,_::_=>false
def cM (hands:Int):PyData->Bool
 | .tuple ds=>!ds.isEmpty && cF hands (-1) ds
 | _=>false
def aBL:PyData->PyData->Bool
 | .int h,.tuple ws=>decide (1<=h) && decide (h<=6) && decide (ws.length<=12) && ws.all (cM h)
 | _,_=>false
def nC:PyData->Bool
 | .tuple [dh,dw]=>aBL dh dw
 | _=>false
section
variable {P:Program} {w:World} {K:PySem.W.Frag} {mg:Str->Option Value} {base:Heap}
def jS (K:PySem.W.Frag):Sp:=fun vs H Q _=>∃ x d,vs = [x]/\Den K H d x/\Q (.bl (fA d)) H
theorem aAL:FnScope ["thing"] ["thing"] (aI jC):=⟨rfl,rfl,rfl,by decide +kernel,rfl,by decide +kernel,by decide +kernel⟩
theorem nD {f:Addr} {fd:FuncData} (G:Fn K mg "is_whole" jC ["thing"] f fd) (B:Bl mg):FnOk P w K mg base CX0 1 f fd ["thing"] (jS K):=by
 refine G.fn.ok aAL (fun vs H Q E h=>?_) (fun cdv A outer s H vs Q E hr h=>?_)
 ·obtain ⟨x,d,rfl,_⟩:=h
  rfl
 ·obtain ⟨x,d,rfl,hd,k⟩:=h
  refine ⟨_,aH (aZ (tR (aU qJ rfl B.isinstance zD (aB (pv 0) (aB (qA (v:=.ty "int") rfl B.int aCw rfl) aE)))
   (tQ (aBm (aU oO rfl B.isinstance zD (aB (pv 0) (aB (qA (v:=.ty "bool") rfl B.bool aBK rfl) aE))))))),?_⟩
  refine ⟨_,rfl,x,qK d,rfl,hd.kd,_,rfl,?_⟩
  refine gM (fun c=>?_) (fun c=>?_)
  ·refine ⟨_,rfl,x,qK d,rfl,hd.kd,_,rfl,?_⟩
   have e:(!decide (qK d=Kd.bl))=fA d:=by
    cases d <;> first | rfl | (exfalso; simp [qK] at c)
   rw [e]
   exact k
  ·have e:false=fA d:=by
    cases d <;> first | rfl | (exfalso; simp [qK] at c)
   rw [e]
   exact k
def qW (K:PySem.W.Frag):Sp:=fun vs H Q _=>∃ x d,vs = [x]/\Den K H d x/\Q (.bl (eT d)) H
theorem aAM:FnScope ["thing"] ["thing"] (aI mY):=⟨rfl,rfl,rfl,by decide +kernel,rfl,by decide +kernel,by decide +kernel⟩
theorem zF {f fW:Addr} {fd fdW:FuncData} (G:Fn K mg "are_hands" mY ["thing"] f fd) (B:Bl mg) (W:Fn K mg "is_whole" jC ["thing"] fW fdW):FnOk P w K mg base CX0 2 f fd ["thing"] (qW K):=by
 have GW:FnOk P w K mg base CX0 1 fW fdW ["thing"] (jS K):=nD W B
 obtain ⟨t6,h6⟩:=B.hands
 refine G.fn.ok aAM (fun vs H Q E h=>?_) (fun cdv A outer s H vs Q E hr h=>?_)
 ·obtain ⟨x,d,rfl,_⟩:=h
  rfl
 ·obtain ⟨x,d,rfl,hd,k⟩:=h
  refine ⟨_,aH (aZ (tR (cA W GW hr rfl (aB (pv 0) aE))
   (tQ (xO xN xN aF (pv 0) (pZ (v:=.int 6) rfl h6 ⟨t6,rfl⟩))))),?_⟩
  refine ⟨_,rfl,x,d,rfl,hd,_,rfl,?_⟩
  refine gM (fun c=>?_) (fun c=>?_)
  ·obtain ⟨i,rfl⟩:∃ i,d=.int i:=by cases d <;> first | exact ⟨_,rfl⟩ | (exfalso; simp [fA] at c)
   obtain rfl:=dE.mp hd
   refine ⟨_,rfl,_,_,rfl,rfl,_,rfl,?_⟩
   refine gM (fun c1=>?_) (fun c1=>?_)
   ·refine ⟨_,_,rfl,rfl,?_⟩
    have e:decide (i<=6)=eT (.int i):=by
     show _=(decide (1<=i) && decide (i<=6))
     rw [c1,Yr]
    show Q (.bl (decide (i<=6))) H
    rw [e]; exact k
   ·have e:false=eT (.int i):=by
     show _=(decide (1<=i) && decide (i<=6))
     have c2:decide (1<=i)=false:=by simpa using c1
     rw [c2,Bool.false_and]
    rw [e]; exact k
  ·have e:false=eT d:=by cases d <;> first | rfl | (exfalso; simp [fA] at c)
   rw [e]; exact k
theorem eI (h l i:Int) (r:List PyData):cF h l (.int i::r)=(decide (l < i) && decide (i < h) && cF h i r):=by rw [cF]
theorem nE (h l:Int) (d:PyData) (r:List PyData) (n:fA d=false):cF h l (d::r)=false:=by
 cases d <;> first | rfl | (simp [fA] at n)
def qX (K:PySem.W.Frag):Sp:=fun vs H Q _=>∃ n x d,vs = [.int n,x]/\Den K H d x/\Q (.bl (cM n d)) H
theorem lL:FnScope ["hands", "thing", "last", "hand"] ["hands", "thing"] (aI mZ):=⟨rfl,rfl,rfl,by decide +kernel,rfl,by decide +kernel,by decide +kernel⟩
theorem zG {f fW:Addr} {fd fdW:FuncData} (G:Fn K mg "is_work" mZ ["hands", "thing"] f fd) (B:Bl mg) (W:Fn K mg "is_whole" jC ["thing"] fW fdW):FnOk P w K mg base CX0 2 f fd ["hands", "thing"] (qX K):=by
 have GW:FnOk P w K mg base CX0 1 fW fdW ["thing"] (jS K):=nD W B
 refine G.fn.ok lL (fun vs H Q E h=>?_) (fun cdv A outer s H vs Q E hr h=>?_)
 ·obtain ⟨n,x,d,rfl,_⟩:=h
  rfl
 ·obtain ⟨n,x,d,rfl,hd,k⟩:=h
  refine ⟨_,aC (cG (PW.pt (gI (iZ (gB (aU mL rfl B.isinstance zD (aB (pv 1) (aB (qA (v:=.ty "tuple") rfl B.tuple iJ rfl) aE)))))
    (fG (aY oW (aU aV rfl B.len eL (aB (pv 1) aE)) aF (bC _))))) (aH (aZ gH)) bI)
   (aC (aJ (i:=2) lL.nd rfl (Or.inl rfl) (rT lX aF))
   (aC (cK PassesOwn.never rfl (tV (pv 1)) (aR (i:=3) lL.nd rfl (Or.inl rfl))
    (aC (cG (PW.pt (gI (iZ (gB (cA W GW hr rfl (aB (pv 3) aE)))) (gI (aY xN (pv 3) (pv 2) (bC _)) (fG (aY aA2 (pv 3) (pv 0) (bC _)))))) (aH (aZ gH)) bI)
    (aH (aJ (i:=2) lL.nd rfl (Or.inl rfl) (pv 3)))))
   (aH (aZ gH)))),?_⟩
  refine ⟨_,rfl,x,qK d,rfl,hd.kd,_,rfl,?_⟩
  refine gM (fun c=>?_) (fun c=>?_)
  ·-- not a tuple
   refine oN ?_
   have e:false=cM n d:=by
    cases d <;> first | rfl | (exfalso; simp [qK] at c)
   rw [e]; exact k
  ·obtain ⟨ds,rfl⟩:∃ ds,d=.tuple ds:=by cases d <;> first | exact ⟨_,rfl⟩ | (exfalso; simp [qK] at c)
   obtain ⟨a,xs,rfl,ha,hds⟩:=cO.mp hd
   have hl:=eB hds
   refine ⟨_,rfl,a,xs,rfl,.inr ha,rfl,_,rfl,?_⟩
   refine gM (fun c2=>?_) (fun c2=>?_)
   ·have e:false=cM n (.tuple ds):=by
     have e1:ds = []:=by
      have:(xs.length:Int)=0:=by simpa using c2
      exact Zg.mp (by omega)
     rw [e1]; rfl
    rw [e]; exact k
   ·have hne:ds≠[]:=by
     intro z
     apply c2
     rw [z] at hl
     simp [hl]
    have e0:cM n (.tuple ds)=cF n (-1) ds:=by
     show (!ds.isEmpty && cF n (-1) ds)=_
     cases ds with
     | nil=>exact absurd rfl hne
     | cons _ _=>rfl
    rw [e0] at k
    refine ⟨_,rfl,?_⟩
    refine ⟨_,rfl,a,rfl,⟨xs,ha⟩,uV (K:=K) (a:=a) (xs:=xs) (fun i σ H2=>∃ (last:Int) (v:Option V),σ = [some (.int n),some (.ref a),some (.int last),v]/\H2=H/\cF n (-1) ds=cF n last (ds.drop i))
     ⟨-1,none,rfl,rfl,rfl⟩ (fun i σ H2 _ ⟨_,_,_,e,_⟩=>by rw [e]; exact ha) ?_ ?_⟩
    ·rintro i y σ H2 hi ⟨last,v,rfl,rfl,hr2⟩
     obtain ⟨dy,hdy,hden⟩:=pF hds hi
     have hdrop:ds.drop i=dy::ds.drop (i+1):=by
      obtain ⟨hlt,e⟩:=Qa.mp hdy
      rw [Xp hlt,e]
     rw [hdrop] at hr2
     refine ⟨_,rfl,y,dy,rfl,hden,_,rfl,?_⟩
     refine gM (fun c3=>?_) (fun c3=>?_)
     ·refine oN ?_
      have e:false=cF n (-1) ds:=by rw [hr2,nE]; simpa using c3
      rw [e]; exact k
     ·obtain ⟨j,rfl⟩:∃ j,dy=.int j:=by cases dy <;> first | exact ⟨_,rfl⟩ | (exfalso; simp [fA] at c3)
      obtain rfl:=dE.mp hden
      rw [eI] at hr2
      refine ⟨_,rfl,_,rfl,_,_,rfl,rfl,_,rfl,?_⟩
      refine gM (fun c4=>?_) (fun c4=>?_)
      ·refine oN ?_
       have c4':j<=last:=of_decide_eq_true c4
       have e:false=cF n (-1) ds:=by rw [hr2,decide_eq_false (by omega:¬ last < j)]; rfl
       rw [e]; exact k
      ·have c4':¬ j<=last:=fun z=>c4 (decide_eq_true z)
       refine ⟨_,rfl,_,rfl,_,_,rfl,rfl,_,rfl,?_⟩
       refine gM (fun c5=>?_) (fun c5=>?_)
       ·have c5':n<=j:=of_decide_eq_true c5
        have e:false=cF n (-1) ds:=by rw [hr2,decide_eq_false (by omega:¬ j < n),Bool.and_false]; rfl
        rw [e]; exact k
       ·have c5':¬ n<=j:=fun z=>c5 (decide_eq_true z)
        refine ⟨_,rfl,j,some (.int j),rfl,rfl,?_⟩
        rw [hr2,decide_eq_true (by omega:last < j),decide_eq_true (by omega:j < n)]
        rfl
    ·rintro σ H2 ⟨last,v,rfl,rfl,hr2⟩
     have e:true=cF n (-1) ds:=by
      rw [hr2,hl,List.drop_length]
      rfl
     show Q (.bl true) _
     rw [e]; exact k
theorem cN {i:Nat} {x:V} {σ:St} {H:Hp} {A B:St->Hp->Prop} (h:A (σ.set i (some x)) H):aT i x σ H fun σ2 H2=>aCj σ2 H2 fun b H3=>if b=true then A σ2 H3 else B σ2 H3:=by
 show if true=true then A (σ.set i (some x)) H else B (σ.set i (some x)) H
 exact oN h
end
def dJ (l:List Int):PyData:=.tuple (l.map .int)
def iT (n:Int) (ws:List (List Int)):PyData:=.tuple [.int n,.tuple (ws.map dJ)]
def pL (hs:List Int):PyData:=.tuple (hs.map .int)
def nF:PyData->List Int->Bool
 | .int i,l=>l.any (·==i)
 | _,_=>false
def sV (ws:List (List Int)):PyData->Bool
 | .tuple hs=>decide (hs.length=ws.length) && (hs.zip ws).all fun p=>nF p.1 p.2
 | _=>false
theorem nG {K:PySem.W.Frag} {H:Hp} {n:Int} {ws:List (List Int)} {x:V} (h:Den K H (iT n ws) x):∃ a b ys,x=.ref a/\SqT K H a [.int n,.ref b]/\SqT K H b ys/\aW K H (ws.map dJ) ys:=by
 obtain ⟨a,xs,rfl,ha,hds⟩:=cO.mp h
 obtain ⟨xh,r1,rfl,hh,h2⟩:=bO.mp hds
 obtain ⟨xw,r2,rfl,hw,h3⟩:=bO.mp h2
 obtain rfl:=cY.mp h3
 obtain rfl:=dE.mp hh
 obtain ⟨b,ys,rfl,hb,hys⟩:=cO.mp hw
 exact ⟨a,b,ys,rfl,ha,hb,hys⟩
theorem bF {n:Int} {ws:List (List Int)} (h:nC (iT n ws)=true):1<=n/\n<=6/\ws.length<=12/\∀ l∈ws,cM n (dJ l)=true:=by
 have h':(decide (1<=n) && decide (n<=6) && decide ((ws.map dJ).length<=12) && (ws.map dJ).all (cM n))=true:=h
 simp only [Ju,decide_eq_true_eq,Qd,Xg] at h'
 exact ⟨h'.1.1.1,h'.1.1.2,h'.1.2,fun l hl=>h'.2 _ (Js.mpr ⟨l,hl,rfl⟩)⟩
section
variable {X:Cx} {K:PySem.W.Frag}
theorem iU (hK:X.K=K):dA X (.builtin "len") (fun xs H Q=>∃ p ys,xs = [.ref p]/\(SqL K H p ys∨SqT K H p ys)/\Q (.int ys.length) H):=by subst hK; exact aV
theorem uN (hK:X.K=K):MtR X "tuple.count" (fun x vs H Q=>∃ (a:Addr) (ns:List Int) (n:Int),x=.ref a/\vs = [.int n]/\SqT K H a (ns.map V.int)/\Q (.int (ns.count n:Nat)) H):=by subst hK; exact wK
end
section
variable {P:Program} {w:World} {K:PySem.W.Frag} {mg:Str->Option Value} {base:Heap}
structure Pr (K:PySem.W.Frag) (mg:Str->Option Value) (fW fH fK fB fNB fD fND fL:Addr) (dW dH dK dB dNB dD dND dL:FuncData):Prop where
 W:Fn K mg "is_whole" jC ["thing"] fW dW
 H:Fn K mg "are_hands" mY ["thing"] fH dH
 Kw:Fn K mg "is_work" mZ ["hands", "thing"] fK dK
 B:Fn K mg "is_book" sBookP ["thing"] fB dB
 NB:Fn K mg "need_book" sNeedB ["book"] fNB dNB
 D:Fn K mg "is_deal" sDealP ["book", "thing"] fD dD
 ND:Fn K mg "need_deal" sNeedD ["book", "deal"] fND dND
 C:∃ f d,Fn K mg "counted" eS ["hands", "deal"] f d
 L:Fn K mg "loads" sLoads ["book", "deal"] fL dL
variable {fW fH fK fB fNB fD fND fL:Addr} {dW dH dK dB dNB dD dND dL:FuncData}
end
def dX (n:Int) (hs:List Int):List Int:=(cL n.toNat).map fun h=>((hs.count h:Nat):Int)
theorem cE {n i:Nat} (h:i < n):(cL n)[i]?=some (i:Int):=by
 unfold cL
 rw [Qg,Wu h]
 rfl
theorem aN (n:Nat):(cL n).length=n:=by unfold cL; rw [Qd,List.length_range]
theorem zH {X:Cx} {K:PySem.W.Frag} {o e:Expr} {es:List Expr} {to:TE} {t:TA} {name:Str} {apos cpos:Pos} {T id:String} {r:V->List V->Hp->VK->Prop} (hK:X.K=K) (pa:PlainAttrs T) (slot:Slot T name id) (hty:typeOf (.builtin id)=pure (.type "method_descriptor")) (hm:MtR X id r) (ho:PE X o to) (ha:PA X (e::es) t)
  (hbase:attributeBase o name X.env (eval o X.env)=eval o X.env:=by rfl)
  (hfew:((backTo cpos (starEach (e::es) X.env)).all (fun x=>!x.1) && (backToKw cpos (keywordEach [] X.env)).all (fun x=>x.1.isSome)
   && decide ((e::es).length+([]:List Keyword).length+(if ([]:List Keyword).isEmpty then 0 else 1) < 30))=true:=by rfl)
  (hline:(apos.endLine==cpos.line)=true:=by rfl) (hs:starEach (e::es) X.env=(false,eval e X.env)::starEach es X.env:=by rfl) (hplain:(backTo cpos (starEach es X.env)).any (·.1)=false:=by rfl) :
  PE X (.Call (.Attribute o name apos) (e::es) [] cpos) (tBM K T r to t):=by
 subst hK
 exact sA pa slot hty hm ho ha hbase hfew hline hs hplain
section
variable {P:Program} {w:World} {K:PySem.W.Frag} {mg:Str->Option Value} {base:Heap}
variable {fW fH fK fB fNB fD fND fL:Addr} {dW dH dK dB dNB dD dND dL:FuncData}
def oT (K:PySem.W.Frag) (H:Hp) (x y:V) (n:Int) (ws:List (List Int)) (hs:List Int):Prop:=Den K H (iT n ws) x/\nC (iT n ws)=true/\Den K H (pL hs) y/\sV ws (pL hs)=true
theorem oT.same {H H':Hp} {x y:V} {n:Int} {ws:List (List Int)} {hs:List Int} (g:oT K H x y n ws hs) (e:aG H H'):oT K H' x y n ws hs:=⟨e.den _ _ g.1,g.2.1,e.den _ _ g.2.2.1,g.2.2.2⟩
theorem oT.len {H:Hp} {x y:V} {n:Int} {ws:List (List Int)} {hs:List Int} (g:oT K H x y n ws hs):hs.length<=12/\1<=n/\n<=6:=by
 obtain ⟨h1,h2,h3,_⟩:=bF g.2.1
 have h:(decide ((hs.map PyData.int).length=ws.length) && ((hs.map PyData.int).zip ws).all fun p=>nF p.1 p.2)=true:=g.2.2.2
 simp only [Ju,decide_eq_true_eq,Qd] at h
 omega
def iK (K:PySem.W.Frag):Sp:=fun vs H Q _=>∃ (n:Int) (b:Addr) (hs:List Int),vs = [.int n,.ref b]/\SqT K H b (hs.map V.int)/\0<=n/\n<=6/\∀ p H',aG H H'->H' p=some (.tup ((dX n hs).map V.int))->Q (.ref p) H'
theorem wY:FnScope ["hands", "deal"] ["hands", "deal"] (aI eS):=⟨rfl,rfl,rfl,by decide +kernel,rfl,by decide +kernel,by decide +kernel⟩
theorem nH {f:Addr} {fd:FuncData} (G:Fn K mg "counted" eS ["hands", "deal"] f fd) (B:Bl mg):FnOk P w K mg base CX0 1 f fd ["hands", "deal"] (iK K):=by
 refine G.fn.ok wY (fun vs H Q E h=>?_) (fun cdv A outer s H vs Q E hr h=>?_)
 ·obtain ⟨n,b,hs,rfl,_⟩:=h
  rfl
 ·obtain ⟨n,c,hs,rfl,hc,hn1,hn6,k⟩:=h
  refine ⟨_,aH (aZ (bL fJ rfl B.tuple iJ (aB
    (iI (own:=["hand"]) (fr:=[1]) (frn:=["deal"]) (cP (aI eS) ["hands", "deal"] rfl rfl (by decide +kernel)) rfl (bU rfl B.range (aB (pv 0) aE))
     (fun _ _ _ _=>aR (i:=0) (show (["hand", "deal"]:List Str).Nodup by decide +kernel) rfl (Or.inl rfl)) (fun _ _ _ _=>gU)
     (fun _ _ _ _=>zH (K:=K) rfl PySem.F.plainAttrs_tuple PySem.F.slot_tuple_count PySem.F.type_tuple_count (uN (K:=K) rfl) (pv 1) (aB (pv 0) aE))) aE))),?_⟩
  refine ⟨_,rfl,n,rfl,by omega,by omega,dU (lo:=0) (n:=n.toNat) (fun σ=>∃ v,σ = [v,some (.ref c)]) (fun i zs H2=>H2=H/\zs=(((cL n.toNat).take i).map fun h=>((hs.count h:Nat):Int)).map V.int) ?_ ⟨none,rfl⟩ ⟨rfl,rfl⟩ ?_ ?_ ?_⟩
  ·rw [sizeLine_eq]; omega
  ·rintro i zs H2 ⟨_,rfl⟩
   rw [Qd,Qd,Xe]; omega
  ·rintro i zs σ H2 hi ⟨v,rfl⟩ ⟨rfl,rfl⟩ hz
   refine cN ?_
   refine ⟨_,rfl,.inr (.inl ⟨rfl,_,hc⟩),_,rfl,c,hs,_,rfl,rfl,hc,hz,⟨_,rfl⟩,rfl,?_⟩
   rw [Zj,cE hi]
   simp
  ·rintro zs H2 ⟨rfl,rfl⟩ p hp
   refine ⟨p,_,rfl,.inl ⟨SqL.of aA,fun l hl=>?_⟩⟩
   refine k l _ ((aG.new hp).trans (aG.new hl)) ?_
   rw [aA,Xb (by rw [aN]; exact Qi _)]
   rfl
end
end Ab
namespace L2
open PySem PySem.Spec PyProof.Rows
section
variable {X:Cx}
def aBc (i j:Int):Prop:=i.natAbs < 2^4000/\j.natAbs < 2^4000
theorem vK {i:Int} (h:i.natAbs < 2^4000):Builtin.Int.intBits i<=2^20:=by
 unfold Builtin.Int.intBits
 split
 ·exact Jz _
 ·rename_i hz
  have hz':i≠0:=by simpa using hz
  have h3:i.natAbs.log2 < 4000:=(Nat.log2_lt (by omega)).mpr h
  have:(2:Nat)^20=1048576:=by decide
  omega
theorem aBc.ok {i j:Int} (h:aBc i j):IntMulOk i j:=IntMulOk.of_bits (vK h.1) (vK h.2)
def aCy (i j:Int):Prop:=0 < j/\j.natAbs < 2^4000
theorem zI:OpR X (binaryOp .FloorDiv) (rI aCy fun i j=>.int (i / j)):=opI fun i j _ _ _ _ _ hc q=>by
 have h1:(0:Int) < j:=hc.1
 refine floordiv_int (by omega) (by rw [Yy i (by omega)]; exact q) (.inl (PyProof.noPylong_of_log2 ?_))
 have h3:j.natAbs.log2 < 4000:=(Nat.log2_lt (by omega)).mpr hc.2
 omega
end
end L2
namespace Ab
open PySem L2
def But (t:Addr) (H H':Hp):Prop:=∀ b o,b≠t->H b=some o->H' b=some o
theorem But.refl (t:Addr) (H:Hp):But t H H:=fun _ _ _ h=>h
theorem But.trans {t:Addr} {H H1 H2:Hp} (a:But t H H1) (b:But t H1 H2):But t H H2:=fun c o n h=>b c o n (a c o n h)
theorem But.of {t:Addr} {H H':Hp} (a:aG H H'):But t H H':=fun c o _ h=>a c o h
theorem But.at {t:Addr} {H:Hp} {u:HO}:But t H (upd H t u):=fun c o n h=>by rw [aD n]; exact h
theorem But.free {t:Addr} {H H':Hp} (e:But t H H') {l:Addr} (h:H' l=none) (n:l≠t):H l=none:=by
 cases q:H l with
 | none=>rfl
 | some o=>rw [e l o n q] at h; cases h
theorem But.rdL {t a:Addr} {H H':Hp} {xs:List V} (e:But t H H') (n:a≠t) (h:Rd H a (.lst xs)):Rd H' a (.lst xs):=by
 rcases h with h | ⟨o,h⟩
 ·exact .inl (e a _ n h)
 ·exact .inr ⟨o,e a _ n h⟩
section
variable {K:PySem.W.Frag} {t:Addr} {H H':Hp} {ys:List V}
theorem But.seqT {a:Addr} {xs:List V} (e:But t H H') (ht:H t=some (.lst ys)) (h:SqT K H a xs):SqT K H' a xs:=by
 rcases h with (h | ⟨o,h⟩) | h
 ·exact .inl (.inl (e a _ (fun z=>by rw [z,ht] at h; cases h) h))
 ·exact .inl (.inr ⟨o,e a _ (fun z=>by rw [z,ht] at h; cases h) h⟩)
 ·exact .inr h
theorem But.seqL {a:Addr} {xs:List V} (e:But t H H') (n:a≠t) (h:SqL K H a xs):SqL K H' a xs:=by
 rcases h with h | h
 ·exact .inl (e.rdL n h)
 ·exact .inr h
mutual
def kN:PyData->Bool
 | .dict _=>false
 | .list _=>false
 | .tuple ds=>jT ds
 | _=>true
def jT:List PyData->Bool
 | []=>true
 | d::ds=>kN d && jT ds
end
mutual
theorem But.den (e:But t H H') (ht:H t=some (.lst ys)):∀ (d:PyData) (v:V),kN d=true->Den K H d v->Den K H' d v
 | .none,v,_,h=>by unfold Den at h ⊢; exact h
 | .bool b,v,_,h=>by unfold Den at h ⊢; exact h
 | .int i,v,_,h=>by unfold Den at h ⊢; exact h
 | .str x,v,_,h=>by unfold Den at h ⊢; exact h
 | .list ds,v,n,h=>by unfold kN at n; cases n
 | .tuple ds,v,n,h=>by unfold kN at n; unfold Den at h ⊢; obtain ⟨a,xs,h1,h2,h3⟩:=h; exact ⟨a,xs,h1,e.seqT ht h2,But.denAll e ht ds xs n h3⟩
 | .dict kvs,v,n,h=>by unfold kN at n; cases n
theorem But.denAll (e:But t H H') (ht:H t=some (.lst ys)):∀ (ds:List PyData) (xs:List V),jT ds=true->aW K H ds xs->aW K H' ds xs
 | [],xs,_,h=>by unfold aW at h ⊢; exact h
 | d::ds,xs,n,h=>by
  unfold jT at n; rw [Ju] at n
  unfold aW at h ⊢; obtain ⟨x,r,h1,h2,h3⟩:=h; exact ⟨x,r,h1,But.den e ht d x n.1 h2,But.denAll e ht ds r n.2 h3⟩
end
end
def Jar (K:PySem.W.Frag) (H:Hp) (t a:Addr) (ns:List Int) (N:Nat):Prop:=(∃ p q:Int,0<=p/\p<=N/\H t=some (.lst [.ref a,.int p,.int q]))/\SqL K H a (ns.map V.int)
section
variable {K:PySem.W.Frag} {H H':Hp} {t a:Addr} {ns:List Int} {N M:Nat}
theorem Jar.same (h:Jar K H t a ns N) (e:aG H H'):Jar K H' t a ns N:=by
 obtain ⟨⟨p,q,h1,h0,h2⟩,h3⟩:=h
 exact ⟨⟨p,q,h1,h0,e t _ h2⟩,e.seqL h3⟩
theorem Jar.more (h:Jar K H t a ns N) (e:N<=M):Jar K H t a ns M:=by
 obtain ⟨⟨p,q,h1,h0,h2⟩,h3⟩:=h
 exact ⟨⟨p,q,h1,by omega,h2⟩,h3⟩
theorem Jar.den (h:Jar K H t a ns N) (e:But t H H') {d:PyData} {v:V} (n:kN d=true) (hd:Den K H d v):Den K H' d v:=by
 obtain ⟨⟨p,q,h1,h0,h2⟩,h3⟩:=h
 exact e.den h2 d v n hd
theorem Jar.denAll (h:Jar K H t a ns N) (e:But t H H') {d:List PyData} {v:List V} (n:jT d=true) (hd:aW K H d v):aW K H' d v:=by
 obtain ⟨⟨p,q,h1,h0,h2⟩,h3⟩:=h
 exact e.denAll h2 d v n hd
theorem Jar.seqT (h:Jar K H t a ns N) (e:But t H H') {b:Addr} {xs:List V} (hd:SqT K H b xs):SqT K H' b xs:=by
 obtain ⟨⟨p,q,h1,h0,h2⟩,h3⟩:=h
 exact e.seqT h2 hd
theorem Jar.ne (h:Jar K H t a ns N) {b:Addr} (hb:H b=none):b≠t:=by
 obtain ⟨⟨p,q,h1,h0,h2⟩,h3⟩:=h
 intro z
 rw [z,h2] at hb
 cases hb
end
theorem uO {ns:List Int} {xs:List V} {a:Addr} {r:List V} (h:ns.map V.int=.ref a::r):False:=by
 cases ns with
 | nil=>cases h
 | cons _ _=>rw [Qu] at h; cases h
theorem eU {K:PySem.W.Frag} {H:Hp} {t a:Addr} {ns:List Int} {p q:Int} {u:HO} (h2:H t=some (.lst [.ref a,.int p,.int q])) (h:SqL K H a (ns.map V.int)):SqL K (upd H t u) a (ns.map V.int):=by
 rcases h with (h | ⟨o,h⟩) | h
 ·have n:a≠t:=fun z=>by
   rw [z,h2] at h
   injection h with h
   injection h with h
   exact uO (xs:=[]) h.symm
  exact .inl (.inl (by rw [aD n]; exact h))
 ·have n:a≠t:=fun z=>by
   rw [z,h2] at h
   cases h
  exact .inl (.inr ⟨o,by rw [aD n]; exact h⟩)
 ·exact .inr h
section
variable {P:Program} {w:World} {K:PySem.W.Frag} {mg:Str->Option Value} {base:Heap}
theorem sW (ns:List Int):cZ (.list (ns.map .int))=true:=by
 unfold cZ
 induction ns with
 | nil=>unfold List.map gD; rfl
 | cons n r ih=>rw [Qu]; unfold gD; rw [ih]; unfold cZ; rfl
theorem nI {α:Type} (f:α->PyData) (h:∀ x,(f x).canLay0=true):∀ l:List α,PyData.canLayAll0 (l.map f)=true
 | []=>by unfold List.map PyData.canLayAll0; rfl
 | x::r=>by rw [Qu]; unfold PyData.canLayAll0; rw [h x,nI f h r]; rfl
theorem pM {α:Type} {k:Nat} (f:α->PyData) (h:∀ x,(f x).depth<=k):∀ l:List α,PyData.depthAll (l.map f)<=k
 | []=>by unfold List.map PyData.depthAll; exact Jz _
 | x::r=>by rw [Qu]; unfold PyData.depthAll; exact Nat.max_le.mpr ⟨h x,pM f h r⟩
theorem uP (i:Int):(PyData.int i).canLay0=true:=by unfold PyData.canLay0; rfl
theorem wZ (i:Int):(PyData.int i).depth<=0:=by unfold PyData.depth; exact Qi _
theorem qY (ns:List Int):(PyData.tuple (ns.map .int)).canLay0=true:=by unfold PyData.canLay0; exact nI _ uP ns
theorem sX (ns:List Int):(PyData.tuple (ns.map .int)).depth<=1:=by unfold PyData.depth; exact Nat.succ_le_succ (pM _ wZ ns)
theorem xA {d:PyData} (h1:d.canLay0=true) (h2:d.depth<=64):SeqAt.shaped d=true:=by
 unfold SeqAt.shaped
 rw [h1,decide_eq_true h2]
 rfl
theorem bR (ns:List Int):SeqAt.shaped (.tuple (ns.map .int))=true:=xA (qY ns) (Ja (sX ns) (by decide))
theorem cQ (ns:List Int):cZ (.tuple (ns.map .int))=true:=by
 have h:=sW ns
 unfold cZ at h ⊢
 exact h
theorem _root_.L2.Room.u64 {k:Nat} {A:Around} (r:Room k A):A.units+64 < cLine:=by have:=r.un; omega
def vL:Sp:=fun vs H Q _=>∃ c a:Int,vs = [.int c,.int a]/\0<=a/\a<=1000000/\∀ r,Q (.int r) H
theorem lM:FnScope ["cell", "at", "one", "two", "three"] ["cell", "at"] (aI qV):=⟨rfl,rfl,rfl,by decide +kernel,rfl,by decide +kernel,by decide +kernel⟩
theorem zJ {f:Addr} {fd:FuncData} (G:Fn K mg "_law_e_whirl" qV ["cell", "at"] f fd):FnOk P w K mg base CX0 1 f fd ["cell", "at"] vL:=by
 refine G.fn.ok lM (fun vs H Q E h=>?_) (fun cdv A outer s H vs Q E hr h=>?_)
 ·obtain ⟨c,a,rfl,_⟩:=h
  rfl
 ·obtain ⟨c,a,rfl,a0,a1,k⟩:=h
  refine ⟨_,(aC (cG (aY aA2 (pv 0) (aM aBt aF aF) (bC _))
   (aH (aZ (pv 0)))
   bI)
  (aC (aJ (i:=2) lM.nd rfl (Or.inl rfl) (aM gO (aM bY (aM bY (aM cW (aM gO (pv 0) aF) aF) (aM cW (pv 1) aF)) aF) aF))
  (aC (aJ (i:=3) lM.nd rfl (Or.inl rfl) (aM gO (aM bY (aM bY (aM bY (aM cW (pv 2) (pv 2)) (aM cW (aM cW aF (pv 1)) (pv 1))) (aM cW aF (pv 2))) aF) aF))
  (aC (aJ (i:=4) lM.nd rfl (Or.inl rfl) (aM gO (aM bY (aM bY (aM bY (aM cW (pv 3) (pv 3)) (aM cW aF (pv 3))) (pv 2)) (aM cW aF (pv 1))) aF))
  (aH (aZ (aM bY (aM cW (pv 3) aF) (pv 4)))))))),?_⟩
  refine ⟨_,rfl,_,_,rfl,rfl,⟨by decide,by decide,by decide⟩,_,_,rfl,rfl,_,rfl,?_⟩
  refine gM (fun c1=>?_) (fun c1=>?_)
  ·exact ⟨_,rfl,k _⟩
  ·refine ⟨_,rfl,_,_,rfl,rfl,(show (0:Int) < _ by decide),_,_,rfl,rfl,.inr ⟨by decide,by decide⟩,_,rfl,_,_,rfl,rfl,.inr ⟨by decide,by decide⟩,_,_,rfl,rfl,_,_,rfl,rfl,_,_,rfl,rfl,(show (0:Int) < _ by decide),?_⟩
   generalize hf:((c % 2147483423*40013+a*15073+83) % 2147483399:Int)=f1
   have b1:0<=f1/\f1 < 2147483399:=by rw [<- hf]; exact ⟨Zr _ (by decide),Zl _ (by decide)⟩
   refine ⟨_,rfl,_,rfl,_,_,rfl,rfl,.inl ⟨by omega,by omega⟩,_,rfl,_,_,rfl,rfl,.inl ⟨by decide,by decide⟩,_,rfl,_,_,rfl,rfl,.inr ⟨by omega,by omega⟩,_,_,rfl,rfl,_,rfl,_,_,rfl,rfl,.inl ⟨by decide,by decide⟩,_,_,rfl,rfl,_,_,rfl,rfl,_,_,rfl,rfl,(show (0:Int) < _ by decide),?_⟩
   generalize hg:((f1*f1+521*a*a+11*f1+7) % 2147483353:Int)=f2
   have b2:0<=f2/\f2 < 2147483353:=by rw [<- hg]; exact ⟨Zr _ (by decide),Zl _ (by decide)⟩
   refine ⟨_,rfl,_,rfl,_,_,rfl,rfl,.inl ⟨by omega,by omega⟩,_,rfl,_,_,rfl,rfl,.inl ⟨by decide,by decide⟩,_,_,rfl,rfl,_,rfl,_,_,rfl,rfl,_,rfl,_,_,rfl,rfl,.inl ⟨by decide,by decide⟩,_,_,rfl,rfl,_,_,rfl,rfl,(show (0:Int) < _ by decide),?_⟩
   exact ⟨_,rfl,_,_,rfl,rfl,.inr ⟨by decide,by decide⟩,_,rfl,_,_,rfl,rfl,k _⟩
def jU (K:PySem.W.Frag):Sp:=fun vs H Q _=>∃ (t a:Addr) (ns:List Int) (N:Nat) (m:Int),vs = [.ref t,.int m]/\Jar K H t a ns N/\N<=900000/\0 < m/\m.natAbs < 2^4000/\∀ r H',0<=r->r < m->But t H H'->Jar K H' t a ns (N+1)->Q (.int r) H'
theorem iL:FnScope ["jar", "many", "at", "cell", "found"] ["jar", "many"] (aI kM):=⟨rfl,rfl,rfl,by decide +kernel,rfl,by decide +kernel,by decide +kernel⟩
theorem zK {f fS:Addr} {fd fdS:FuncData} (G:Fn K mg "_law_e_scoop" kM ["jar", "many"] f fd) (B:Bl mg) (GWh:Fn K mg "_law_e_whirl" qV ["cell", "at"] fS fdS):FnOk P w K mg base CX0 2 f fd ["jar", "many"] (jU K):=by
 have OWh:FnOk P w K mg base CX0 1 fS fdS ["cell", "at"] vL:=zJ GWh
 refine G.fn.ok iL (fun vs H Q E h=>?_) (fun cdv A outer s H vs Q E hr h=>?_)
 ·obtain ⟨t,a,ns,N,m,rfl,_⟩:=h
  rfl
 ·obtain ⟨t,a,ns,N,m,rfl,⟨⟨p,q,hp,hpN,ht⟩,hns⟩,hN,hm1,hm2,k⟩:=h
  have r1:Room 1 _:=hr
  refine ⟨_,(aC (cG (aY lY (aX bE (pv 0) aF (fun _ _=>rfl)) (pv 1) (bC _))
   (aC (aJ (i:=2) iL.nd rfl (Or.inl rfl) (aX bE (pv 0) aF (fun _ _=>rfl)))
  (aC (aJ (i:=3) iL.nd rfl (Or.inl rfl) (aM bY (aM cW aF (pv 2)) aF))
  (aC (cG (aY lY (pv 2) (aU aV rfl B.len eL (aB (aX bE (pv 0) aF (fun _ _=>rfl)) aE)) (bC _))
   (aH (aJ (i:=3) iL.nd rfl (Or.inl rfl) (aX bE (aX bE (pv 0) aF (fun _ _=>rfl)) (pv 2) (fun _ _=>rfl))))
   (aH (cG (aY uZ (aU aV rfl B.len eL (aB (aX bE (pv 0) aF (fun _ _=>rfl)) aE)) aF (bC _))
   (aH (aJ (i:=3) iL.nd rfl (Or.inl rfl) (aM bY (aM gO (aX bE (aX bE (pv 0) aF (fun _ _=>rfl)) (aM gO (aM bY (aM cW aF (pv 2)) aF) (aU aV rfl B.len eL (aB (aX bE (pv 0) aF (fun _ _=>rfl)) aE))) (fun _ _=>rfl)) aF) (aM cW (pv 2) aF))))
   bI)))
  (aC (qC (aM bY (pv 2) aF) (tS (pv 0) aF mH))
  (aH (qC (cA GWh OWh r1 rfl (aB (pv 3) (aB (pv 2) aE))) (tS (pv 0) aF mH)))))))
   bI)
  (aC (aJ (i:=4) iL.nd rfl (Or.inl rfl) (aM gO (aX bE (pv 0) aF (fun _ _=>rfl)) (pv 1)))
  (aC (qC (aM zI (aX bE (pv 0) aF (fun _ _=>rfl)) (pv 1)) (tS (pv 0) aF mH))
  (aH (aZ (pv 4)))))),?_⟩
  have last:∀ (p1 r:Int) (H':Hp),0<=p1->p1<=N+1->But t H H'->H' t=some (.lst [.ref a,.int p1,.int r])->SqL K H' a (ns.map V.int)->Q (.int (r % m)) (upd H' t (.lst [.ref a,.int p1,.int (r / m)])):=fun p1 r H' h0 h1 b' h2 h3 =>
   k _ _ (Zr _ (by omega)) (Zl _ hm1) (b'.trans But.at) ⟨⟨p1,r / m,h0,by omega,aA⟩,eU h2 h3⟩
  refine ⟨_,rfl,t,_,2,.int q,rfl,rfl,SqL.of ht,rfl,_,rfl,_,_,rfl,rfl,_,rfl,?_⟩
  refine gM (fun c1=>?_) (fun c1=>?_)
  ·refine ⟨_,rfl,t,_,1,.int p,rfl,rfl,SqL.of ht,rfl,?_⟩
   refine ⟨_,rfl,_,_,rfl,rfl,.inl ⟨by decide,by decide⟩,_,_,rfl,rfl,?_⟩
   refine ⟨_,rfl,_,rfl,t,_,0,.ref a,rfl,rfl,SqL.of ht,rfl,a,_,rfl,.inl hns,_,_,rfl,rfl,_,rfl,?_⟩
   refine gM (fun c2=>?_) (fun c2=>?_)
   ·have c2':p < ((ns.map V.int).length:Int):=of_decide_eq_true c2
    rw [Qd] at c2'
    have hlt:p.toNat < ns.length:=by omega
    have hat:atI (ns.map V.int) p=some (.int (ns[p.toNat])):=by
     have h1:(ns.map V.int)[p.toNat]?=some (.int (ns[p.toNat])):=by rw [Qg,Qb hlt]; rfl
     have h2:=cH h1
     rwa [Yx hp] at h2
    refine ⟨_,rfl,t,_,0,.ref a,rfl,rfl,SqL.of ht,rfl,_,rfl,a,_,_,_,rfl,rfl,hns,hat,?_⟩
    refine ⟨_,rfl,_,_,rfl,rfl,_,rfl,t,_,_,1,rfl,rfl,ht,rfl,?_⟩
    refine ⟨_,rfl,_,rfl,_,_,rfl,hp,by omega,fun r=>⟨_,rfl,t,_,_,2,rfl,rfl,aA,rfl,?_⟩⟩
    refine ⟨_,rfl,t,_,2,.int r,rfl,rfl,SqL.of aA,rfl,_,rfl,_,_,rfl,rfl,hm1,?_⟩
    refine ⟨_,rfl,t,_,2,.int r,rfl,rfl,SqL.of aA,rfl,_,rfl,_,_,rfl,rfl,⟨hm1,hm2⟩,_,rfl,t,_,_,2,rfl,rfl,aA,rfl,?_⟩
    exact ⟨_,rfl,last (p+1) r _ (by omega) (by omega) (But.at.trans But.at) aA (eU (p:=p+1) (q:=q) aA (eU ht hns))⟩
   ·refine ⟨_,rfl,t,_,0,.ref a,rfl,rfl,SqL.of ht,rfl,a,_,rfl,.inl hns,_,_,rfl,rfl,_,rfl,?_⟩
    refine gM (fun c3=>?_) (fun c3=>?_)
    ·have hpos:0 < ns.length:=by
      have:=of_decide_eq_true c3
      rw [Qd] at this
      omega
     have hlt:((7*p+3) % (ns.length:Int)).toNat < ns.length:=by
      have:=Zr (7*p+3) (show (ns.length:Int)≠0 by omega)
      have:=Zl (7*p+3) (show (0:Int) < ns.length by omega)
      omega
     have hat:atI (ns.map V.int) ((7*p+3) % ((ns.map V.int).length:Int))=some (.int (ns[((7*p+3) % (ns.length:Int)).toNat])):=by
      have h1:(ns.map V.int)[((7*p+3) % (ns.length:Int)).toNat]?=some (.int (ns[((7*p+3) % (ns.length:Int)).toNat])):=by rw [Qg,Qb hlt]; rfl
      have h2:=cH h1
      rw [Qd]
      rwa [Yx (Zr _ (by omega))] at h2
     refine ⟨_,rfl,t,_,0,.ref a,rfl,rfl,SqL.of ht,rfl,_,rfl,_,_,rfl,rfl,.inl ⟨by decide,by decide⟩,_,_,rfl,rfl,_,rfl,t,_,0,.ref a,rfl,rfl,SqL.of ht,rfl,a,_,rfl,.inl hns,_,_,rfl,rfl,(show (0:Int) < ((ns.map V.int).length:Int) by rw [Qd]; omega),a,_,_,_,rfl,rfl,hns,hat,_,_,rfl,rfl,(show (0:Int) < _ by decide),_,rfl,_,_,rfl,rfl,.inr ⟨by decide,by decide⟩,_,_,rfl,rfl,?_⟩
     refine ⟨_,rfl,_,_,rfl,rfl,_,rfl,t,_,_,1,rfl,rfl,ht,rfl,?_⟩
     refine ⟨_,rfl,_,rfl,_,_,rfl,hp,by omega,fun r=>⟨_,rfl,t,_,_,2,rfl,rfl,aA,rfl,?_⟩⟩
     refine ⟨_,rfl,t,_,2,.int r,rfl,rfl,SqL.of aA,rfl,_,rfl,_,_,rfl,rfl,hm1,?_⟩
     refine ⟨_,rfl,t,_,2,.int r,rfl,rfl,SqL.of aA,rfl,_,rfl,_,_,rfl,rfl,⟨hm1,hm2⟩,_,rfl,t,_,_,2,rfl,rfl,aA,rfl,?_⟩
     exact ⟨_,rfl,last (p+1) r _ (by omega) (by omega) (But.at.trans But.at) aA (eU (p:=p+1) (q:=q) aA (eU ht hns))⟩
    ·show _
     refine ⟨_,rfl,_,_,rfl,rfl,_,rfl,t,_,_,1,rfl,rfl,ht,rfl,?_⟩
     refine ⟨_,rfl,_,rfl,_,_,rfl,hp,by omega,fun r=>⟨_,rfl,t,_,_,2,rfl,rfl,aA,rfl,?_⟩⟩
     refine ⟨_,rfl,t,_,2,.int r,rfl,rfl,SqL.of aA,rfl,_,rfl,_,_,rfl,rfl,hm1,?_⟩
     refine ⟨_,rfl,t,_,2,.int r,rfl,rfl,SqL.of aA,rfl,_,rfl,_,_,rfl,rfl,⟨hm1,hm2⟩,_,rfl,t,_,_,2,rfl,rfl,aA,rfl,?_⟩
     exact ⟨_,rfl,last (p+1) r _ (by omega) (by omega) (But.at.trans But.at) aA (eU (p:=p+1) (q:=q) aA (eU ht hns))⟩
  ·show _
   refine ⟨_,rfl,t,_,2,.int q,rfl,rfl,SqL.of ht,rfl,_,rfl,_,_,rfl,rfl,hm1,?_⟩
   refine ⟨_,rfl,t,_,2,.int q,rfl,rfl,SqL.of ht,rfl,_,rfl,_,_,rfl,rfl,⟨hm1,hm2⟩,_,rfl,t,_,_,2,rfl,rfl,ht,rfl,?_⟩
   exact ⟨_,rfl,last p q _ hp (by omega) (But.refl _ _) ht hns⟩
theorem sY (n:Int):∀ (l:List Int) (last:Int),(∀ x∈l,last < x)->l.Pairwise (· < ·)->(∀ x∈l,x < n)->cF n last (l.map .int)=true
 | [],_,_,_,_=>rfl
 | x::r,last,h1,h2,h3=>by
  rw [Qu,eI]
  have h2':=Yz.mp h2
  rw [decide_eq_true (h1 x (Qr ..)),decide_eq_true (h3 x (Qr ..)),sY n r x h2'.1 h2'.2 (fun y hy=>h3 y (Qq _ hy))]
  rfl
theorem qZ {n:Int} {l:List Int} (h0:l≠[]) (h1:∀ x∈l,0<=x/\x < n) (h2:l.Pairwise (· < ·)):cM n (dJ l)=true:=by
 have e:cM n (dJ l)=(!(l.map PyData.int).isEmpty && cF n (-1) (l.map .int)):=rfl
 rw [e,sY n l (-1) (fun x hx=>by have:=(h1 x hx).1; omega) h2 (fun x hx=>(h1 x hx).2)]
 cases l with
 | nil=>exact absurd rfl h0
 | cons _ _=>rfl
theorem lB (n:Int):∀ (l:List Int) (last:Int),cF n last (l.map .int)=true->l.Pairwise (· < ·)/\∀ x∈l,last < x/\x < n
 | [],_,_=>⟨.nil,fun _ h=>by cases h⟩
 | x::r,last,h=>by
  rw [Qu,eI,Ju,Ju] at h
  obtain ⟨⟨h1,h2⟩,h3⟩:=h
  have h1:=of_decide_eq_true h1
  have h2:=of_decide_eq_true h2
  obtain ⟨i1,i2⟩:=lB n r x h3
  refine ⟨Yz.mpr ⟨fun y hy=>(i2 y hy).1,i1⟩,fun y hy=>?_⟩
  rcases Qs.mp hy with rfl | hy
  ·exact ⟨h1,h2⟩
  ·exact ⟨by have:=(i2 y hy).1; omega,(i2 y hy).2⟩
theorem bA {n:Int} {l:List Int} (h:cM n (dJ l)=true):l≠[]/\(∀ x∈l,0<=x/\x < n)/\l.Pairwise (· < ·):=by
 have e:(!(l.map PyData.int).isEmpty && cF n (-1) (l.map .int))=true:=h
 rw [Ju] at e
 obtain ⟨h1,h2⟩:=lB n l (-1) e.2
 refine ⟨fun z=>by rw [z] at e; simp at e,fun x hx=>⟨by have:=(h2 x hx).1; omega,(h2 x hx).2⟩,h1⟩
theorem nJ {n:Int}:∀ (l:List Int) (lo:Int),lo<=n->(∀ x∈l,lo<=x/\x < n)->l.Pairwise (· < ·)->(l.length:Int)<=n - lo
 | [],lo,h,_,_=>by simp; omega
 | x::r,lo,h,h1,h2=>by
  have h2':=Yz.mp h2
  have hx:=h1 x (Qr ..)
  have:=nJ r (x+1) (by omega) (fun y hy=>⟨by have:=h2'.1 y hy; omega,(h1 y (Qq _ hy)).2⟩) h2'.2
  rw [Qz]
  omega
theorem nK {n:Int} {l:List Int} (hn:0<=n) (h1:∀ x∈l,0<=x/\x < n) (h2:l.Pairwise (· < ·)):(l.length:Int)<=n:=by
 have:=nJ l 0 hn h1 h2
 omega
theorem sz1 (x:V) : [x].length<=sizeLine:=by rw [sizeLine_eq]; simp
theorem sz2 (x y:V) : [x,y].length<=sizeLine:=by rw [sizeLine_eq]; simp
theorem iV {n:Nat} (h:n<=1000):n<=sizeLine:=by rw [sizeLine_eq]; omega
theorem lN {n:Int} {ws:List (List Int)} (h1:1<=n) (h2:n<=6) (h3:ws.length<=12) (h4:∀ l∈ws,cM n (dJ l)=true):nC (iT n ws)=true:=by
 show (decide (1<=n) && decide (n<=6) && decide ((ws.map dJ).length<=12) && (ws.map dJ).all (cM n))=true
 rw [decide_eq_true h1,decide_eq_true h2,Qd,decide_eq_true h3,Yr,Yr,Yr,Xg]
 intro d hd
 obtain ⟨l,hl,rfl⟩:=Js.mp hd
 exact h4 l hl
end
end Ab
namespace Ab
def eJ (ws:List (List Int)) (hs:List Int) (g:Int) (w:Nat) (t:Int):Prop:=hs[w]?=some g/\∃ l,ws[w]?=some l/\t∈l/\t≠g
def RL (ws:List (List Int)) (hs:List Int):Nat->Int->Int->Prop
 | 0,h,x=>h=x
 | k+1,h,x=>h=x∨∃ w o,eJ ws hs h w o/\RL ws hs k o x
def bH (ws:List (List Int)) (hs:List Int):Int->List (Nat×Int×Int)->Int->Prop
 | h,[],x=>h=x
 | h,s::r,x=>s.2.1=h/\eJ ws hs h s.1 s.2.2/\bH ws hs s.2.2 r x
section
variable {ws:List (List Int)} {hs:List Int}
theorem RL.refl:∀ (k:Nat) (h:Int),RL ws hs k h h
 | 0,_=>rfl
 | _+1,_=>.inl rfl
theorem RL.succ:∀ {k:Nat} {h x:Int},RL ws hs k h x->RL ws hs (k+1) h x
 | 0,_,_,e=>.inl e
 | k+1,_,_,.inl e=>.inl e
 | k+1,_,_,.inr ⟨w,o,e,r⟩=>.inr ⟨w,o,e,RL.succ r⟩
theorem RL.mono {k m:Nat} {h x:Int} (r:RL ws hs k h x) (le:k<=m):RL ws hs m h x:=by
 induction le with
 | refl=>exact r
 | step _ ih=>exact ih.succ
theorem RL.snoc:∀ {k:Nat} {h g t:Int} {w:Nat},RL ws hs k h g->eJ ws hs g w t->RL ws hs (k+1) h t
 | 0,_,_,_,w,e,d=>by subst e; exact .inr ⟨w,_,d,rfl⟩
 | k+1,_,_,_,w,.inl e,d=>by subst e; exact .inr ⟨w,_,d,RL.refl _ _⟩
 | k+1,_,_,_,_,.inr ⟨w',o,e,r⟩,d=>.inr ⟨w',o,e,RL.snoc r d⟩
theorem RL.closed {S:Int->Prop} (hc:∀ g w t,S g->eJ ws hs g w t->S t):∀ {k:Nat} {h x:Int},S h->RL ws hs k h x->S x
 | 0,_,_,s,e=>e ▸ s
 | _+1,_,_,s,.inl e=>e ▸ s
 | _+1,_,_,s,.inr ⟨w,o,e,r⟩=>RL.closed hc (hc _ w o s e) r
theorem bH.snoc:∀ {h g:Int} {r:List (Nat×Int×Int)} {w:Nat} {t:Int},bH ws hs h r g->eJ ws hs g w t->bH ws hs h (r++[(w,g,t)]) t
 | _,_,[],_,_,e,d=>by cases e; exact ⟨rfl,d,rfl⟩
 | _,_,_::_,_,_,⟨e1,e2,e3⟩,d=>⟨e1,e2,bH.snoc e3 d⟩
def aBd (ws:List (List Int)) (hs:List Int) (n:Nat) (h v:Int):Prop:=(∃ x,RL ws hs n h x/\v=((hs.count x:Nat):Int))/\∀ k x,RL ws hs k h x->v<=((hs.count x:Nat):Int)
theorem aBd.le {n:Nat} {h v:Int} (m:aBd ws hs n h v):v<=((hs.count h:Nat):Int):=m.2 0 h rfl
end
theorem fX:∀ (n:Nat) (l:List Int),l.Nodup->(∀ x∈l,0<=x/\x < (n:Int))->l.length<=n
 | 0,[],_,_=>Qi _
 | 0,x::_,_,h=>by have:=h x (.head _); omega
 | n+1,l,hn,h=>by
  by_cases hm:(n:Int)∈l
  ·have h1:=fX n (l.erase (n:Int)) (hn.erase _) fun x hx=>by
    have h2:=(hn.mem_erase_iff).mp hx
    have h3:=h x h2.2
    have:=h2.1
    omega
   rw [Zz hm] at h1
   omega
  ·have h1:=fX n l hn fun x hx=>by
    have h3:=h x hx
    have:x≠(n:Int):=fun z=>hm (z ▸ hx)
    omega
   omega
end Ab
namespace L2
open PySem
theorem aG.wr {H H':Hp} {a:Addr} {u:HO} (e:aG H H') (h:H a=none):aG H (upd H' a u):=fun b o q=>by
 rw [aD (fun z=>by rw [z,h] at q; cases q)]
 exact e b o q
end L2
namespace Ab
open PySem L2
theorem nM {h:Int} {l:List Int}:nF (.int h) l=true↔h∈l:=by
 show (l.any (·==h))=true↔_
 rw [Zi]
 constructor
 ·rintro ⟨x,hx,e⟩
  have:x=h:=by simpa using e
  exact this ▸ hx
 ·exact fun hx=>⟨h,hx,by simp⟩
theorem bM {ws:List (List Int)} {hs:List Int} (h:sV ws (pL hs)=true):hs.length=ws.length/\∀ (j:Nat) (h:Int) (l:List Int),hs[j]?=some h->ws[j]?=some l->h∈l:=by
 have h':(decide ((hs.map PyData.int).length=ws.length) && ((hs.map PyData.int).zip ws).all fun p=>nF p.1 p.2)=true:=h
 rw [Qd,Ju,Xg] at h'
 refine ⟨of_decide_eq_true h'.1,fun j h l hj hl=>?_⟩
 refine nM.mp (h'.2 (.int h,l) (Qe (i:=j) ?_))
 rw [Jo]
 exact ⟨by rw [Qg,hj]; rfl,hl⟩
theorem rA {ws:List (List Int)} {hs:List Int} (h1:hs.length=ws.length) (h2:∀ (j:Nat) (h:Int) (l:List Int),hs[j]?=some h->ws[j]?=some l->h∈l):sV ws (pL hs)=true:=by
 show (decide ((hs.map PyData.int).length=ws.length) && ((hs.map PyData.int).zip ws).all fun p=>nF p.1 p.2)=true
 rw [Qd,decide_eq_true h1,Yr,Xg]
 rintro ⟨d,l⟩ hm
 obtain ⟨j,hj⟩:=Qw.mp hm
 rw [Jo] at hj
 obtain ⟨hj1,hj2⟩:=hj
 have hj1:(hs.map PyData.int)[j]?=some d:=hj1
 have hj2:ws[j]?=some l:=hj2
 rw [Qg] at hj1
 cases q:hs[j]? with
 | none=>rw [q] at hj1; cases hj1
 | some h =>
  rw [q] at hj1
  obtain rfl:PyData.int h=d:=Option.some.inj hj1
  exact nM.mpr (h2 j h l q hj2)
theorem oT.hand {H:Hp} {x y:V} {n:Int} {ws:List (List Int)} {hs:List Int} (g:oT K H x y n ws hs) {i:Nat} {h:Int} (e:hs[i]?=some h):0<=h/\h < n:=by
 obtain ⟨_,_,_,hw⟩:=bF g.2.1
 obtain ⟨hl,hd⟩:=bM g.2.2.2
 have hi:i < ws.length:=by rw [<- hl]; exact (Qa.mp e).1
 have hm:=hd i h ws[i] e (Qb hi)
 exact (bA (hw _ (Wg hi))).2.1 h hm
theorem rB {xs:List Int} {i:Nat} {v:V} (h:(xs.map V.int)[i]?=some v):∃ a,xs[i]?=some a/\v=.int a:=by
 rw [Qg] at h
 cases q:xs[i]? with
 | none=>rw [q] at h; cases h
 | some a=>rw [q] at h; exact ⟨a,rfl,(Option.some.inj h).symm⟩
theorem nN {n:Int} {hs:List Int} {j:Nat} (h:j < n.toNat):(dX n hs)[j]?=some ((hs.count (j:Int):Nat):Int):=by
 unfold dX
 rw [Qg,cE h]
 rfl
theorem aBM {n:Nat} {k:Int} (h0:0<=k) (h1:k < n):ixN n k=some k.toNat:=by
 unfold ixN
 rw [if_pos h0,if_pos (by omega)]
def lH (E:Nat->Int->Prop) (r:List (Key×V)):Prop:=(∀ k v,bJ r k=some v->∃ (w:Nat) (t:Int),k=.inl t/\v=.int (w:Nat)/\E w t)/\∀ w t,E w t->(bJ r (.inl t)).isSome=true
theorem lH.nil {E:Nat->Int->Prop} (h:∀ w t,¬ E w t):lH E []:=⟨fun k v e=>(by rw [yJ] at e; cases e),fun w t e=>(h w t e).elim⟩
theorem lH.put {E:Nat->Int->Prop} {r:List (Key×V)} (h:lH E r) (w:Nat) (t:Int):lH (fun w' t'=>E w' t'∨(w'=w/\t'=t)) (dF r (.inl t) (.int (w:Nat))):=by
 refine ⟨fun k v e=>?_,fun w' t' e=>?_⟩
 ·rw [sL] at e
  by_cases hk:k=Sum.inl t
  ·rw [if_pos hk] at e
   exact ⟨w,t,hk,(Option.some.inj e).symm,.inr ⟨rfl,rfl⟩⟩
  ·rw [if_neg hk] at e
   obtain ⟨w',t',h1,h2,h3⟩:=h.1 k v e
   exact ⟨w',t',h1,h2,.inl h3⟩
 ·rw [sL]
  by_cases hk:(Sum.inl t':Key)=Sum.inl t
  ·rw [if_pos hk]; rfl
  ·rw [if_neg hk]
   rcases e with e | ⟨_,e⟩
   ·exact h.2 w' t' e
   ·exact absurd (by rw [e]) hk
theorem lH.congr {E E':Nat->Int->Prop} {r:List (Key×V)} (h:lH E r) (e:∀ w t,E w t↔E' w t):lH E' r:=⟨fun k v q=>let ⟨w,t,a,b,c⟩:=h.1 k v q; ⟨w,t,a,b,(e w t).mp c⟩,fun w t q=>h.2 w t ((e w t).mpr q)⟩
structure Rows (H:Hp) (rp:Addr) (qs:List Addr) (rs:List (List (Key×V))):Prop where
 lst:H rp=some (.lst (qs.map V.ref))
 len:qs.length=rs.length
 nd:qs.Nodup
 row:∀ (g:Nat) q r,qs[g]?=some q->rs[g]?=some r->H q=some (.dK r)
theorem Rows.same {H H':Hp} {rp:Addr} {qs:List Addr} {rs:List (List (Key×V))} (h:Rows H rp qs rs) (s:aG H H'):Rows H' rp qs rs:=⟨s _ _ h.lst,h.len,h.nd,fun g q r a b=>s _ _ (h.row g q r a b)⟩
theorem Rows.put {H:Hp} {rp:Addr} {qs:List Addr} {rs:List (List (Key×V))} (h:Rows H rp qs rs) {g:Nat} {q:Addr} {r r':List (Key×V)} (hq:qs[g]?=some q) (hr:rs[g]?=some r):Rows (upd H q (.dK r')) rp qs (rs.set g r'):=by
 have hg:=h.row g q r hq hr
 have nq:rp≠q:=fun z=>by have:=h.lst; rw [z,hg] at this; cases this
 refine ⟨by rw [aD nq]; exact h.lst,by rw [Yv]; exact h.len,h.nd,fun g2 q2 r2 h1 h2=>?_⟩
 rw [Xi] at h2
 by_cases e:g=g2
 ·subst e
  rw [if_pos rfl] at h2
  rw [hq] at h1
  cases h1
  by_cases hl:g < rs.length
  ·rw [if_pos hl] at h2; cases h2; exact aA
  ·rw [if_neg hl] at h2; cases h2
 ·rw [if_neg e] at h2
  have n2:q2≠q:=fun z=>by
   subst z
   have hlt:g < qs.length:=(Qa.mp hq).1
   exact e ((List.getElem?_inj hlt h.nd).mp (hq.trans h1.symm))
  rw [aD n2]
  exact h.row g2 q2 r2 h1 h2
theorem Rows.other {H:Hp} {rp a:Addr} {u:HO} {qs:List Addr} {rs:List (List (Key×V))} (h:Rows H rp qs rs) (hn:H a=none):Rows (upd H a u) rp qs rs:=h.same (aG.new hn)
def sZ (E:Int->Nat->Int->Prop) (rs:List (List (Key×V))) (m:Nat):Prop:=∀ (g:Nat) r,rs[g]?=some r->lH (E g) r/\r.length<=m
section
variable {P:Program} {w:World} {K:PySem.W.Frag} {mg:Str->Option Value} {base:Heap}
def kO (K:PySem.W.Frag):Sp:=fun vs H Q _=>∃ x y n ws hs,vs = [x,y]/\oT K H x y n ws hs/\∀ rp H' qs rs,aG H H'->H rp=none->(∀ q∈qs,H q=none)->Rows H' rp qs rs->rs.length=n.toNat->sZ (eJ ws hs) rs 100->Q (.ref rp) H'
theorem eO:FnScope ["book", "deal", "rows", "work", "giver", "able", "taker"] ["book", "deal"] (aI fU):=⟨rfl,rfl,rfl,by decide +kernel,rfl,by decide +kernel,by decide +kernel⟩
theorem nO {f:Addr} {fd:FuncData} (G:Fn K mg "handing" fU ["book", "deal"] f fd) (B:Bl mg):FnOk P w K mg base CX0 1 f fd ["book", "deal"] (kO K):=by
 refine G.fn.ok eO (fun vs H Q E h=>?_) (fun cdv A outer s H vs Q E hr h=>?_)
 ·obtain ⟨x,y,n,ws,hs,rfl,_⟩:=h
  rfl
 ·obtain ⟨x,y,n,ws,hs,rfl,g,k⟩:=h
  refine ⟨_,(aC (mK (i:=2) (own:=["hand"]) (fr:=[]) (frn:=[]) (cP (aI fU) ["book", "deal", "rows", "work", "giver", "able", "taker"] rfl rfl (by decide +kernel)) rfl eO.nd rfl rfl rfl (bU rfl B.range (aB (aX cB (pv 0) aF (fun _ _=>rfl)) aE))
    (fun _ _ _ _=>(aR (i:=0) (show (["hand"]:List Str).Nodup by decide +kernel) rfl (Or.inl rfl))) (fun _ _ _ _=>gU)
    (fun _ _ _ _=>gZ))
   (aC (cK PassesOwn.never rfl (uK .t .t rfl B.enumerate rfl B.zip (aB (pv 1) (aB (aX cB (pv 0) aF (fun _ _=>rfl)) aE))) (lW rfl (cC (aR (i:=3) eO.nd rfl (Or.inl rfl)) (cC (lW rfl (cC (aR (i:=4) eO.nd rfl (Or.inl rfl)) (cC (aR (i:=5) eO.nd rfl (Or.inl rfl)) jF))) jF)))
    (aH (cK PassesOwn.never rfl (tV (pv 5)) (aR (i:=6) eO.nd rfl (Or.inl rfl))
     (aH (cG (aY jG (pv 6) (pv 4) (bC _))
      (aH (gE (fP hr) (aX bE (pv 2) (pv 4) (fun _ _=>rfl)) (pv 6) (pv 3) rfl))
      bI)))))
   (aH (aZ (pv 2))))),?_⟩
  obtain ⟨hl12,hn1,hn6⟩:=g.len
  obtain ⟨a,b,ys,rfl,ha,hb2,hys⟩:=nG g.1
  obtain ⟨c0,rfl,hc0⟩:=bP.mp g.2.2.1
  obtain ⟨hdl,hdg⟩:=bM g.2.2.2
  obtain ⟨_,_,hw12,hws⟩:=bF g.2.1
  have hlw:=eB hys
  rw [Qd] at hlw
  refine ⟨_,rfl,a,_,0,.int n,rfl,rfl,ha,rfl,n,rfl,by omega,by omega,dU (lo:=0) (n:=n.toNat) (fun σ=>∃ v,σ = [v]) (fun i zs H2=>∃ qs:List Addr,zs=qs.map V.ref/\qs.length=i/\aG H H2/\qs.Nodup/\∀ q∈qs,H q=none/\H2 q=some (.dK [])) ?_ ⟨none,rfl⟩ ⟨[],rfl,rfl,aG.refl H,List.nodup_nil,fun _ h=>(Qy h).elim⟩ ?_ ?_ ?_⟩
  ·rw [sizeLine_eq]; omega
  ·rintro i zs H2 ⟨qs,rfl,hq,_⟩
   rw [Qd]; omega
  ·rintro i zs σ H2 hi ⟨v,rfl⟩ ⟨qs,rfl,hq,s2,nd,hqs⟩ hz
   refine cN ?_
   intro p hp
   refine ⟨hz,⟨_,rfl⟩,qs++[p],by rw [Jk]; rfl,by rw [Qh,hq]; rfl,s2.trans (aG.new hp),?_,fun q hq'=>?_⟩
   ·rw [Xj]
    refine ⟨nd,by simp,fun x hx y hy e=>?_⟩
    rw [Qm.mp hy] at e
    have:=(hqs x hx).2
    rw [e,hp] at this; cases this
   ·rcases Jq.mp hq' with h | h
    ·exact ⟨(hqs q h).1,(aG.new hp) _ _ (hqs q h).2⟩
    ·rw [Qm.mp h]
     exact ⟨s2.free hp,aA⟩
  ·rintro zs H2 ⟨qs,rfl,hq,s2,nd,hqs⟩ rp hrp
   have s3:=s2.trans (aG.new (o:=.lst (qs.map V.ref)) hrp)
   have hrp0:H rp=none:=s2.free hrp
   have R3:Rows (upd H2 rp (.lst (qs.map V.ref))) rp qs (List.replicate n.toNat []):=⟨aA,by rw [Xc]; exact hq,nd,fun g q r h1 h2=>by
    have er:r = []:=by
     rw [Xr] at h2
     split at h2
     ·exact (Option.some.inj h2).symm
     ·cases h2
    rw [er]
    exact (aG.new hrp) _ _ (hqs q (Qe h1)).2⟩
   generalize upd H2 rp (.lst (qs.map V.ref))=H3 at s3 R3 ⊢
   have h6:∀ l∈ws,l.length<=6:=fun l hl=>by
    obtain ⟨_,w2,w3⟩:=bA (hws l hl)
    have:=nK (by omega) w2 w3
    omega
   refine ⟨_,rfl,_,rfl,a,_,1,.ref b,rfl,rfl,s3.seqT ha,rfl,c0,b,_,_,rfl,s3.seqT hc0,s3.seqT hb2,sQ (K:=K) (k1:=.t) (k2:=.t) (a:=c0) (b:=b) (xs:=hs.map V.int) (ys:=ys)
    (fun i σ H4=>(∃ v3 v4 v5 v6,σ = [some (.ref a),some (.ref c0),some (.ref rp),v3,v4,v5,v6])/\aG H H4/\∃ rs,Rows H4 rp qs rs/\rs.length=n.toNat/\sZ (fun g w t=>w < i/\eJ ws hs g w t) rs (6*i))
    (by rw [Qd]; omega) ⟨⟨_,_,_,_,rfl⟩,s3,_,R3,Xc,fun g r hr=>?_⟩ (fun _ σ H4 _ ⟨_,s4,_⟩=>⟨s4.seqT hc0,s4.seqT hb2⟩) ?_ ?_⟩
   ·have er:r = []:=by
     rw [Xr] at hr
     split at hr
     ·exact (Option.some.inj hr).symm
     ·cases hr
    rw [er]
    exact ⟨lH.nil fun w t h=>by omega,Jz _⟩
   ·rintro i u v p q σ H4 hu hv ⟨⟨v3,v4,v5,v6,rfl⟩,s4,rs,R4,hl4,E4⟩ hp hq hne
    obtain ⟨h,hh,rfl⟩:=rB hu
    obtain ⟨dv,hdv,denv⟩:=pF hys hv
    rw [Qg] at hdv
    obtain ⟨l,hl,rfl⟩:∃ l,ws[i]?=some l/\dJ l=dv:=by
     cases q:ws[i]? with
     | none=>rw [q] at hdv; cases hdv
     | some l=>rw [q] at hdv; exact ⟨l,rfl,Option.some.inj hdv⟩
    obtain ⟨aw,rfl,haw⟩:=bP.mp denv
    obtain ⟨hh0,hh1⟩:=g.hand hh
    have hl6:=h6 l (Qe hl)
    have hi12:i < 12:=by
     have:=(Qa.mp hh).1
     omega
    have sp:=aG.new (o:=.tup [.int h,.ref aw]) hp
    have hq1:upd H4 p (.tup [.int h,.ref aw]) q=none:=by rw [aD hne]; exact hq
    have sq:=aG.new (o:=.tup [.int (i:Nat),.ref p]) hq1
    have ep:upd (upd H4 p (.tup [.int h,.ref aw])) q (.tup [.int (i:Nat),.ref p]) p=some (.tup [.int h,.ref aw]):=sq _ _ aA
    have eq:upd (upd H4 p (.tup [.int h,.ref aw])) q (.tup [.int (i:Nat),.ref p]) q=some (.tup [.int (i:Nat),.ref p]):=aA
    have s5:=s4.trans (sp.trans sq)
    have R5:=R4.same (sp.trans sq)
    generalize upd (upd H4 p (.tup [.int h,.ref aw])) q (.tup [.int (i:Nat),.ref p])=H5 at ep eq s5 R5 ⊢
    refine ⟨q,_,rfl,SqT.of eq,rfl,_,_,rfl,_,_,rfl,p,_,rfl,SqT.of ep,rfl,_,_,rfl,_,_,rfl,rfl,rfl,?_⟩
    have hgl:h.toNat < qs.length:=by rw [R5.len,hl4]; omega
    obtain ⟨qh,hqh⟩:∃ qh,qs[h.toNat]?=some qh:=⟨_,Qb hgl⟩
    have hcast:((h.toNat:Nat):Int)=h:=by omega
    refine ⟨_,rfl,aw,rfl,⟨_,s5.seqT haw⟩,uV (K:=K) (a:=aw) (xs:=l.map V.int) (fun j σ H6=>(∃ v6,σ = [some (.ref a),some (.ref c0),some (.ref rp),some (.int (i:Nat)),some (.int h),some (.ref aw),v6])/\aG H H6/\∃ rs,Rows H6 rp qs rs/\rs.length=n.toNat/\sZ (fun g w t=>(w < i/\eJ ws hs g w t)∨(w=i/\g=h/\t∈l.take j/\t≠h)) rs (6*i+j))
     ⟨⟨_,rfl⟩,s5,rs,R5,hl4,fun g r hr=>⟨(E4 g r hr).1.congr fun w t=>⟨.inl,fun z=>z.elim id fun z=>by rw [Ws] at z; exact (Qy z.2.2.1).elim⟩,(E4 g r hr).2⟩⟩ (fun _ σ H6 _ ⟨_,s6,_⟩=>s6.seqT haw) ?_ ?_⟩
    ·rintro j tv σ H6 htv ⟨⟨v6,rfl⟩,s6,rs,R6,hl6',E6⟩
     obtain ⟨t,ht,rfl⟩:=rB htv
     have hj:j < l.length:=(Qa.mp ht).1
     have etake:l.take (j+1)=l.take j++[t]:=by rw [Zj,ht]; rfl
     refine ⟨_,rfl,_,rfl,rfl,_,rfl,?_⟩
     refine gM (fun c=>?_) (fun c=>?_)
     ·have hth:t≠h:=fun z=>by rw [z] at c; simp at c
      obtain ⟨r,hr⟩:∃ r,rs[h.toNat]?=some r:=⟨_,Qb (by rw [hl6']; omega)⟩
      have hat:atI (qs.map V.ref) h=some (.ref qh):=by
       have:=cH (xs:=qs.map V.ref) (j:=h.toNat) (v:=.ref qh) (by rw [Qg,hqh]; rfl)
       rwa [hcast] at this
      have hrow:=R6.row _ _ _ hqh hr
      have hrl:=(E6 _ _ hr).2
      have hqH:H qh=none:=(hqs qh (Qe hqh)).1
      refine ⟨_,rfl,_,rfl,_,rfl,rp,_,h,_,rfl,rfl,SqL.of R6.lst,hat,_,rfl,qh,_,rfl,lF.k (k:=.inl t) hrow (by rw [sizeLine_eq]; omega),?_⟩
      refine ⟨⟨_,rfl⟩,s6.wr hqH,rs.set h.toNat (dF r (.inl t) (.int (i:Nat))),R6.put hqh hr,by rw [Yv]; exact hl6',fun g2 r2 hr2=>?_⟩
      rw [Xi] at hr2
      by_cases eg:h.toNat=g2
      ·rw [if_pos eg,if_pos (by rw [hl6']; omega)] at hr2
       cases hr2
       have eg':((g2:Nat):Int)=h:=by omega
       refine ⟨((E6 _ _ hr).1.put i t).congr fun w t'=>?_,Ja (eE _ _ _) (by omega)⟩
       rw [hcast,eg',etake]
       constructor
       ·rintro ((z | ⟨z1,z2,z3,z4⟩) | ⟨z1,z2⟩)
        ·exact .inl z
        ·exact .inr ⟨z1,z2,Jm _ z3,z4⟩
        ·exact .inr ⟨z1,rfl,by rw [z2]; simp,by rw [z2]; exact hth⟩
       ·rintro (z | ⟨z1,z2,z3,z4⟩)
        ·exact .inl (.inl z)
        ·rcases Jq.mp z3 with z3 | z3
         ·exact .inl (.inr ⟨z1,z2,z3,z4⟩)
         ·exact .inr ⟨z1,Qm.mp z3⟩
      ·rw [if_neg eg] at hr2
       refine ⟨(E6 _ _ hr2).1.congr fun w t'=>?_,Ja (E6 _ _ hr2).2 (by omega)⟩
       have ng:¬ ((g2:Nat):Int)=h:=by omega
       constructor
       ·rintro (z | ⟨_,z2,_⟩)
        ·exact .inl z
        ·exact absurd z2 ng
       ·rintro (z | ⟨_,z2,_⟩)
        ·exact .inl z
        ·exact absurd z2 ng
     ·have hth:t=h:=by simpa using c
      refine ⟨⟨_,rfl⟩,s6,rs,R6,hl6',fun g2 r2 hr2=>⟨(E6 _ _ hr2).1.congr fun w t'=>?_,Ja (E6 _ _ hr2).2 (by omega)⟩⟩
      rw [etake]
      constructor
      ·rintro (z | ⟨z1,z2,z3,z4⟩)
       ·exact .inl z
       ·exact .inr ⟨z1,z2,Jm _ z3,z4⟩
      ·rintro (z | ⟨z1,z2,z3,z4⟩)
       ·exact .inl z
       ·rcases Jq.mp z3 with z3 | z3
        ·exact .inr ⟨z1,z2,z3,z4⟩
        ·exact absurd ((Qm.mp z3).trans hth) z4
    ·rintro σ H6 ⟨⟨v6,rfl⟩,s6,rs,R6,hl6',E6⟩
     refine ⟨⟨_,_,_,_,rfl⟩,s6,rs,R6,hl6',fun g2 r2 hr2=>⟨(E6 _ _ hr2).1.congr fun w t'=>?_,Ja (E6 _ _ hr2).2 (by rw [Qd]; omega)⟩⟩
     rw [Qd,Xy]
     constructor
     ·rintro (⟨z1,z2⟩ | ⟨z1,z2,z3,z4⟩)
      ·exact ⟨by omega,z2⟩
      ·subst z1
       exact ⟨by omega,by rw [hh,z2],l,hl,z3,by rw [z2]; exact z4⟩
     ·rintro ⟨z1,z2⟩
      by_cases hw:w < i
      ·exact .inl ⟨hw,z2⟩
      ·have ew:w=i:=by omega
       subst ew
       obtain ⟨z3,l',z4,z5,z6⟩:=z2
       rw [hh] at z3
       rw [hl] at z4
       cases z4
       have ez:h=g2:=Option.some.inj z3
       exact .inr ⟨rfl,ez.symm,z5,by rw [ez]; exact z6⟩
   ·rintro σ H4 ⟨⟨v3,v4,v5,v6,rfl⟩,s4,rs,R4,hl4,E4⟩
    refine ⟨_,rfl,k rp H4 qs rs s4 hrp0 (fun q hq=>(hqs q hq).1) R4 hl4 fun g r hr=>⟨(E4 g r hr).1.congr fun w t=>⟨fun z=>z.2,fun z=>⟨?_,z⟩⟩,Ja (E4 g r hr).2 (by rw [Qd]; omega)⟩⟩
    rw [Qd]
    exact (Qa.mp z.1).1
def vM (K:PySem.W.Frag) (H:Hp) (x:V) (y:Addr) (n:Int) (ws:List (List Int)) (hs:List Int):Prop:=Den K H (iT n ws) x/\nC (iT n ws)=true/\SqL K H y (hs.map V.int)/\sV ws (pL hs)=true
theorem vM.len {H:Hp} {x:V} {y:Addr} {n:Int} {ws:List (List Int)} {hs:List Int} (g:vM K H x y n ws hs):hs.length<=12/\1<=n/\n<=6:=by
 obtain ⟨h1,h2,h3,_⟩:=bF g.2.1
 have:=(bM g.2.2.2).1
 omega
theorem vM.hand {H:Hp} {x:V} {y:Addr} {n:Int} {ws:List (List Int)} {hs:List Int} (g:vM K H x y n ws hs) {i:Nat} {h:Int} (e:hs[i]?=some h):0<=h/\h < n:=by
 obtain ⟨_,_,_,hws⟩:=bF g.2.1
 obtain ⟨hl,hm⟩:=bM g.2.2.2
 have hi:i < ws.length:=by rw [<- hl]; exact (Qa.mp e).1
 have hw:=Qb hi
 exact (bA (hws _ (Qe hw))).2.1 h (hm i h _ e hw)
end
def Tp (H H':Hp):Prop:=∀ p xs,H p=some (.tup xs)->H' p=some (.tup xs)
theorem Tp.of {H H':Hp} (s:aG H H'):Tp H H':=fun _ _ h=>s _ _ h
theorem Tp.trans {H H1 H2:Hp} (a:Tp H H1) (b:Tp H1 H2):Tp H H2:=fun p xs h=>b p xs (a p xs h)
theorem Tp.upd {H:Hp} {a:Addr} {u:HO} (h:∀ xs,H a≠some (.tup xs)):Tp H (upd H a u):=fun p xs e=>by
 have ne:p≠a:=fun z=>h xs (by rw [<- z]; exact e)
 rw [aD ne]; exact e
theorem lO {fs:List (Key×V)} {os:List Int} (h:fs.map (·.1)=os.map Sum.inl) (t:Int):(bJ fs (.inl t)).isSome=decide (t∈os):=by
 rw [<- dG]
 have:(fs.any fun kv=>decide (kv.1=Sum.inl t))=((fs.map (·.1)).any fun k=>decide (k=Sum.inl t)):=by rw [List.any_map]; rfl
 rw [this,h,List.any_map,Xx]
 simp
structure Tree (ws:List (List Int)) (hs:List Int) (n first:Int) (H:Hp) (fs:List (Key×V)) (os:List Int):Prop where
 keys:fs.map (·.1)=os.map Sum.inl
 nd:os.Nodup
 rng:∀ o∈os,0<=o/\o < n
 head:os[0]?=some first
 v0:bJ fs (.inl first)=some .non
 par:∀ (j:Nat) (t:Int),0 < j->os[j]?=some t->∃ (p:Addr) (w:Nat) (g:Int) (i:Nat),bJ fs (.inl t)=some (.ref p)/\H p=some (.tup [.int (w:Nat),.int g,.int t])/\eJ ws hs g w t/\i < j/\os[i]?=some g
section
variable {ws:List (List Int)} {hs:List Int} {n first:Int} {H H':Hp} {fs:List (Key×V)} {os:List Int}
theorem Tree.tp (T:Tree ws hs n first H fs os) (e:Tp H H'):Tree ws hs n first H' fs os :=
 ⟨T.keys,T.nd,T.rng,T.head,T.v0,fun j t h0 h1=>let ⟨p,w,g,i,a,b,c⟩:=T.par j t h0 h1; ⟨p,w,g,i,a,e _ _ b,c⟩⟩
theorem Tree.len (T:Tree ws hs n first H fs os):os.length<=n.toNat:=fX _ _ T.nd fun x hx=>by have:=T.rng x hx; omega
theorem Tree.flen (T:Tree ws hs n first H fs os):fs.length=os.length:=by
 have:=congrArg Zw T.keys
 rwa [Qd,Qd] at this
theorem Tree.one (h0:0<=first) (h1:first < n):Tree ws hs n first H [(.inl first,.non)] [first] :=
 ⟨rfl,by simp,fun o ho=>by rw [Qm.mp ho]; exact ⟨h0,h1⟩,rfl,bV rfl,fun j t h2 h3=>by
  cases j with
  | zero=>omega
  | succ j=>simp at h3⟩
theorem Tree.grow (T:Tree ws hs n first H fs os) {p:Addr} {w:Nat} {g t:Int} {i:Nat} (hp:H p=some (.tup [.int (w:Nat),.int g,.int t])) (e:eJ ws hs g w t) (hi:os[i]?=some g) (ht:t∉os) (r0:0<=t) (r1:t < n) :
  Tree ws hs n first H (fs++[(.inl t,.ref p)]) (os++[t]):=by
 have hv:bJ fs (.inl t)=none:=by
  have:=lO T.keys t
  rw [decide_eq_false ht] at this
  cases q:bJ fs (.inl t) with
  | none=>rfl
  | some v=>rw [q] at this; cases this
 have hlt:i < os.length:=(Qa.mp hi).1
 have val:∀ j:Key,bJ (fs++[(.inl t,.ref p)]) j=if j=.inl t then some (.ref p) else bJ fs j:=fun j=>kI _ _ _ _ hv
 have hf:first∈os:=Qe T.head
 refine ⟨by rw [Jk,Jk,T.keys]; rfl,?_,fun o ho=>?_,?_,?_,fun j t' h0 h1=>?_⟩
 ·rw [Xj]
  exact ⟨T.nd,by simp,fun x hx y hy z=>ht (by rw [<- Qm.mp hy,<- z]; exact hx)⟩
 ·rcases Jq.mp ho with h | h
  ·exact T.rng o h
  ·rw [Qm.mp h]; exact ⟨r0,r1⟩
 ·rw [Qj (by omega)]; exact T.head
 ·rw [val,if_neg (fun z=>ht (by have:first=t:=(by simpa using z); rw [<- this]; exact hf))]
  exact T.v0
 ·by_cases hj:j < os.length
  ·rw [Qj hj] at h1
   obtain ⟨p',w',g',i',a,b,c,d,e'⟩:=T.par j t' h0 h1
   have ne:(Sum.inl t':Key)≠Sum.inl t:=fun z=>ht (by have:t'=t:=(by simpa using z); rw [<- this]; exact Qe h1)
   exact ⟨p',w',g',i',by rw [val,if_neg ne]; exact a,b,c,d,by rw [Qj (by omega)]; exact e'⟩
  ·have ej:j=os.length:=by
    have:=(Qa.mp h1).1
    rw [Qh] at this
    simp at this
    omega
   subst ej
   rw [Qv (Qi _),Xk] at h1
   have et:t'=t:=by simpa using h1.symm
   subst et
   exact ⟨p,w,g,i,by rw [val,if_pos rfl],hp,e,hlt,by rw [Qj hlt]; exact hi⟩
theorem Tree.rl (T:Tree ws hs n first H fs os):∀ (j:Nat) (t:Int),os[j]?=some t->RL ws hs j first t:=by
 intro j
 induction j using Nat.strongRecOn with
 | ind j ih =>
  intro t ht
  by_cases h0:j=0
  ·subst h0
   rw [T.head] at ht
   exact Option.some.inj ht
  ·obtain ⟨p,w,g,i,_,_,e,hi,hg⟩:=T.par j t (by omega) ht
   exact ((ih i hi g hg).snoc e).mono (by omega)
end
section
variable {P:Program} {w:World} {K:PySem.W.Frag} {mg:Str->Option Value} {base:Heap}
def rC (ws:List (List Int)) (hs os:List Int):Prop:=∀ g∈os,∀ w t,eJ ws hs g w t->t∈os
def kP (K:PySem.W.Frag):Sp:=fun vs H Q _=>∃ rp first qs rs n ws hs,vs = [.ref rp,.int first]/\Rows H rp qs rs/\rs.length=n.toNat/\sZ (eJ ws hs) rs 100/\(∀ g w t,eJ ws hs g w t->0<=t/\t < n)/\n<=7/\0<=first/\first < n /\
 ∀ fd H' fs os,aG H H'->H fd=none->H' fd=some (.dK fs)->Tree ws hs n first H' fs os->rC ws hs os->Q (.ref fd) H'
theorem fY:FnScope ["rows", "first", "found", "waiting", "giver", "taker"] ["rows", "first"] (aI iC):=⟨rfl,rfl,rfl,by decide +kernel,rfl,by decide +kernel,by decide +kernel⟩
theorem nQ {f:Addr} {fd:FuncData} (G:Fn K mg "reached" iC ["rows", "first"] f fd) (B:Bl mg):FnOk P w K mg base CX0 1 f fd ["rows", "first"] (kP K):=by
 refine G.fn.ok fY (fun vs H Q E h=>?_) (fun cdv A outer s H vs Q E hr h=>?_)
 ·obtain ⟨rp,first,qs,rs,n,ws,hs,rfl,_⟩:=h
  rfl
 ·obtain ⟨rp,first,qs,rs,n,ws,hs,rfl,R,hlr,ER,hedge,hn6,hf0,hf1,k⟩:=h
  refine ⟨_,(aC (aJ (i:=2) fY.nd rfl (Or.inl rfl) (yM (pv 1) aBl))
   (aC (aJ (i:=3) fY.nd rfl (Or.inl rfl) (mF (aB (pv 1) aE)))
   (aC (rS PassesOwn.never (xP (pv 3) (fun _=>rfl))
    (aC (aJ (i:=4) fY.nd rfl (Or.inl rfl) (sA PySem.F.plainAttrs_list PySem.F.slot_list_pop PySem.F.type_list_pop sB (pv 3) (aB aF aE)))
    (aH (aAE (cK PassesOwn.never rfl (vE (aX bE (pv 0) (pv 4) (fun _ _=>rfl))) (aR (i:=5) fY.nd rfl (Or.inl rfl))
     (aH (cG (qB (pI (fP hr) (pv 5) (pv 2)) (by with_unfolding_all rfl))
      (aC (gE (fP hr) (pv 2) (pv 5) (cX (aB (cI (fP hr) (aX bE (pv 0) (pv 4) (fun _ _=>rfl)) (pv 5) (fun _ _=>rfl)) (aB (pv 4) (aB (pv 5) aE)))) rfl)
      (aH (bT (sA PySem.F.plainAttrs_list PySem.F.slot_list_append PySem.F.type_list_append pD (pv 3) (aB (pv 5) aE)))))
      bI)))))))
   (aH (aZ (pv 2)))))),?_⟩
  intro fd0 hfd0
  refine ⟨_,rfl,.inl first,rfl,aA,?_⟩
  rw [gA]
  have s1:=aG.new (o:=.dK [(.inl first,.non)]) hfd0
  have e1:upd H fd0 (.dK [(.inl first,.non)]) fd0=some (.dK [(.inl first,.non)]):=aA
  generalize upd H fd0 (.dK [(.inl first,.non)])=H1 at s1 e1 ⊢
  refine ⟨_,rfl,sz1 _,fun wt hwt=>?_⟩
  have hwt0:H wt=none:=s1.free hwt
  have nfw:fd0≠wt:=fun z=>by rw [z,hwt] at e1; cases e1
  have s2:=s1.trans (aG.new (o:=.lst [.int first]) hwt)
  have e2:=(aG.new (o:=.lst [.int first]) hwt) _ _ e1
  have w2:upd H1 wt (.lst [.int first]) wt=some (.lst [.int first]):=aA
  generalize upd H1 wt (.lst [.int first])=H2 at s2 e2 w2 ⊢
  -- the while
  refine ⟨fun m σ H3=>∃ (v4 v5:Option V) (mm:Nat) (fs:List (Key×V)) (os:List Int),σ = [some (.ref rp),some (.int first),some (.ref fd0),some (.ref wt),v4,v5]/\m=n.toNat - mm/\aG H H3/\H3 fd0=some (.dK fs)/\H3 wt=some (.lst ((os.drop mm).map V.int))/\Tree ws hs n first H3 fs os/\mm<=os.length /\
    ∀ (i:Nat) (g:Int),i < mm->os[i]?=some g->∀ w t,eJ ws hs g w t->t∈os,
   ⟨n.toNat - 0,none,none,0,_,[first],rfl,rfl,s2,e2,w2,Tree.one hf0 hf1,Jz _,fun i g hi=>absurd hi (Nat.not_lt_zero _)⟩,?_⟩
  rintro m σ H3 ⟨v4,v5,mm,fs,os,rfl,rfl,s3,e3,w3,T3,hmm,pr3⟩
  refine ⟨_,rfl,!((os.drop mm).map V.int).isEmpty,.inl ⟨_,SqL.of w3,rfl⟩,?_⟩
  by_cases hend:mm < os.length
  ·-- a turn
   have hne:(os.drop mm)≠[]:=by
    intro z
    have:=congrArg Zw z
    rw [Zh] at this
    simp at this
    omega
   have hb:(!((os.drop mm).map V.int).isEmpty)=true:=by
    cases q:os.drop mm with
    | nil=>exact absurd q hne
    | cons _ _=>rfl
   rw [hb]
   refine oN ?_
   have hdrop:os.drop mm=os[mm]::os.drop (mm+1):=Xp hend
   have hgm:os[mm]?=some (os[mm]):=Qb hend
   generalize os[mm]=g at hdrop hgm
   obtain ⟨hg0,hg1⟩:=T3.rng g (Qe hgm)
   have holen:=T3.len
   refine ⟨fun σ' H'=>∃ m',m' < n.toNat - mm/\∃ (v4 v5:Option V) (mm:Nat) (fs:List (Key×V)) (os:List Int),σ' = [some (.ref rp),some (.int first),some (.ref fd0),some (.ref wt),v4,v5]/\m'=n.toNat - mm/\aG H H'/\H' fd0=some (.dK fs)/\H' wt=some (.lst ((os.drop mm).map V.int))/\Tree ws hs n first H' fs os/\mm<=os.length /\
    ∀ (i:Nat) (g:Int),i < mm->os[i]?=some g->∀ w t,eJ ws hs g w t->t∈os,fun σ' H' z=>z,?_⟩
   refine ⟨_,rfl,.inl ⟨rfl,_,SqL.of w3⟩,?_⟩
   have hx0:((os.drop mm).map V.int)[0]?=some (.int g):=by rw [hdrop]; rfl
   have hxl:0 < ((os.drop mm).map V.int).length:=(Qa.mp hx0).1
   refine ⟨wt,_,0,0,.int g,rfl,rfl,w3,by decide,by decide,jN (i:=0) (by decide) hxl,hx0,?_⟩
   have her:((os.drop mm).map V.int).eraseIdx 0=(os.drop (mm+1)).map V.int:=by rw [hdrop]; rfl
   rw [her]
   have s4:=s3.wr (u:=.lst ((os.drop (mm+1)).map V.int)) hwt0
   have e4:upd H3 wt (.lst ((os.drop (mm+1)).map V.int)) fd0=some (.dK fs):=by rw [aD nfw]; exact e3
   have w4:upd H3 wt (.lst ((os.drop (mm+1)).map V.int)) wt=some (.lst ((os.drop (mm+1)).map V.int)):=aA
   have T4:=T3.tp (Tp.upd (a:=wt) (u:=.lst ((os.drop (mm+1)).map V.int)) fun xs z=>by rw [w3] at z; cases z)
   generalize upd H3 wt (.lst ((os.drop (mm+1)).map V.int))=H4 at s4 e4 w4 T4 ⊢
   -- the row
   have R4:=R.same s4
   have hgl:g.toNat < qs.length:=by rw [R.len,hlr]; omega
   have hcast:((g.toNat:Nat):Int)=g:=by omega
   obtain ⟨qg,hqg⟩:∃ q,qs[g.toNat]?=some q:=⟨_,Qb hgl⟩
   obtain ⟨r,hr⟩:∃ r,rs[g.toNat]?=some r:=⟨_,Qb (by rw [hlr]; omega)⟩
   have hat:atI (qs.map V.ref) g=some (.ref qg):=by
    have:=cH (xs:=qs.map V.ref) (j:=g.toNat) (v:=.ref qg) (by rw [Qg,hqg]; rfl)
    rwa [hcast] at this
   have hrow:=R.row _ _ _ hqg hr
   have hrow4:=s4 _ _ hrow
   obtain ⟨hRE,hRl⟩:=ER _ _ hr
   rw [hcast] at hRE
   have nqf:qg≠fd0:=fun z=>by rw [z,hfd0] at hrow; cases hrow
   have nqw:qg≠wt:=fun z=>by rw [z,hwt0] at hrow; cases hrow
   have nqr:rp≠qg:=fun z=>by have:=R.lst; rw [z,hrow] at this; cases this
   refine ⟨_,rfl,_,rfl,rp,_,g,_,rfl,rfl,SqL.of R4.lst,hat,qg,r,rfl,hrow4,fun o nf=>?_⟩
   have z5:upd H4 qg (.frz o (.dK r)) qg=some (.frz o (.dK r)):=aA
   have b5:But qg H (upd H4 qg (.frz o (.dK r))):=fun b u nb hb=>by rw [aD nb]; exact s4 _ _ hb
   have e5:upd H4 qg (.frz o (.dK r)) fd0=some (.dK fs):=by rw [aD (Ne.symm nqf)]; exact e4
   have w5:upd H4 qg (.frz o (.dK r)) wt=some (.lst ((os.drop (mm+1)).map V.int)):=by rw [aD (Ne.symm nqw)]; exact w4
   have T5:=T4.tp (Tp.upd (a:=qg) (u:=.frz o (.dK r)) fun xs z=>by rw [hrow4] at z; cases z)
   generalize upd H4 qg (.frz o (.dK r))=H5 at z5 b5 e5 w5 T5 ⊢
   refine yL (a:=qg) (o:=o) (kvs:=r) (fun j σ H6=>∃ (v5:Option V) (fs:List (Key×V)) (os:List Int),σ = [some (.ref rp),some (.int first),some (.ref fd0),some (.ref wt),some (.int g),v5]/\H6 qg=some (.frz o (.dK r))/\But qg H H6/\H6 fd0=some (.dK fs)/\H6 wt=some (.lst ((os.drop (mm+1)).map V.int))/\Tree ws hs n first H6 fs os/\mm+1<=os.length/\os[mm]?=some g /\
     (∀ (i:Nat) (g:Int),i < mm->os[i]?=some g->∀ w t,eJ ws hs g w t->t∈os)/\∀ (i:Nat) k v t,i < j->r[i]?=some (k,v)->k=.inl t->t∈os)
    ⟨v5,fs,os,rfl,z5,b5,e5,w5,T5,hend,hgm,pr3,fun i k v t hi=>absurd hi (Nat.not_lt_zero _)⟩ (fun j σ H6 _ ⟨_,_,_,_,h,_⟩=>h) ?_ ?_
   ·rintro j ⟨key,val⟩ σ H6 hj ⟨v5,fs,os,rfl,z6,b6,e6,w6,T6,hl6,hg6,pr6,dn6⟩
    -- the key is a hand,its value a work
    obtain ⟨val',hval⟩:∃ v,bJ r key=some v:=by
     have:(bJ r key).isSome=true:=by
      rw [<- dG,Zi]
      exact ⟨_,Qe hj,by simp⟩
     cases q:bJ r key with
     | none=>rw [q] at this; cases this
     | some v=>exact ⟨v,rfl⟩
    obtain ⟨wk,t,rfl,rfl,hE⟩:=hRE.1 _ _ hval
    obtain ⟨ht0,ht1⟩:=hedge _ _ _ hE
    dsimp only [kV]
    have dn:∀ (os':List Int),t∈os'->(∀ x∈os,x∈os')->∀ (i:Nat) k v t',i < j+1->r[i]?=some (k,v)->k=.inl t'->t'∈os':=fun os' h1 h2 i k v t' hi hk he=>by
     by_cases hij:i < j
     ·exact h2 _ (dn6 i k v t' hij hk he)
     ·have:i=j:=by omega
      subst this
      rw [hj] at hk
      cases hk
      have:t=t':=by simpa using he
      rw [<- this]; exact h1
    refine ⟨_,rfl,_,rfl,fd0,_,rfl,gN.k (k:=.inl t) e6,_,rfl,?_⟩
    rw [lO T6.keys]
    by_cases htm:t∈os
    ·rw [decide_eq_true htm]
     refine uE ?_
     exact ⟨_,fs,os,rfl,z6,b6,e6,w6,T6,hl6,hg6,pr6,dn os htm fun _ h=>h⟩
    ·rw [decide_eq_false htm]
     refine oN ?_
     have hR6:H6 rp=some (.lst (qs.map V.ref)):=b6 _ _ nqr R.lst
     refine ⟨_,rfl,_,rfl,rp,_,g,_,rfl,rfl,SqL.of hR6,hat,_,rfl,qg,.int (wk:Nat),rfl,.inl ⟨r,.inl t,.inr ⟨o,z6⟩,rfl,hval.symm⟩,_,rfl,_,rfl,iV (show 3<=1000 by decide),fun p hp=>?_⟩
     have sp:=aG.new (o:=.tup [.int (wk:Nat),.int g,.int t]) hp
     have ep:upd H6 p (.tup [.int (wk:Nat),.int g,.int t]) p=_:=aA
     have b7:But qg H (upd H6 p (.tup [.int (wk:Nat),.int g,.int t])):=b6.trans (But.of sp)
     have z7:=sp _ _ z6
     have e7:=sp _ _ e6
     have w7:=sp _ _ w6
     have T7:=T6.tp (Tp.of sp)
     generalize upd H6 p (.tup [.int (wk:Nat),.int g,.int t])=H7 at sp ep b7 z7 e7 w7 T7 ⊢
     have hv:bJ fs (.inl t)=none:=by
      have:=lO T7.keys t
      rw [decide_eq_false htm] at this
      cases q:bJ fs (.inl t) with
      | none=>rfl
      | some v=>rw [q] at this; cases this
     have T7l:=T7.len
     have T7f:=T7.flen
     have T8:=T7.grow ep hE hg6 htm ht0 ht1
     have hput:dF fs (.inl t) (.ref p)=fs++[(.inl t,.ref p)]:=jM _ hv
     refine ⟨_,rfl,_,rfl,fd0,_,rfl,lF.k (k:=.inl t) e7 (by rw [sizeLine_eq]; omega),?_⟩
     rw [hput]
     have b8:But qg H (upd H7 fd0 (.dK (fs++[(.inl t,.ref p)]))):=fun b u nb hb=>by
      rw [aD (fun z=>by rw [z,hfd0] at hb; cases hb)]
      exact b7 b u nb hb
     have z8:upd H7 fd0 (.dK (fs++[(.inl t,.ref p)])) qg=some (.frz o (.dK r)):=by rw [aD nqf]; exact z7
     have e8:upd H7 fd0 (.dK (fs++[(.inl t,.ref p)])) fd0=_:=aA
     have w8:upd H7 fd0 (.dK (fs++[(.inl t,.ref p)])) wt=some (.lst ((os.drop (mm+1)).map V.int)):=by rw [aD (Ne.symm nfw)]; exact w7
     have T8':=T8.tp (Tp.upd (a:=fd0) (u:=.dK (fs++[(.inl t,.ref p)])) fun xs z=>by rw [e7] at z; cases z)
     generalize upd H7 fd0 (.dK (fs++[(.inl t,.ref p)]))=H8 at b8 z8 e8 w8 T8' ⊢
     refine ⟨_,rfl,.inl ⟨rfl,_,SqL.of w8⟩,_,rfl,wt,_,.int t,rfl,rfl,w8,by rw [Qd,Zh,sizeLine_eq]; omega,?_⟩
     have hdr:(os.drop (mm+1)).map V.int++[V.int t]=((os++[t]).drop (mm+1)).map V.int:=by
      rw [List.drop_append_of_le_length hl6,Jk]; rfl
     rw [hdr]
     refine ⟨_,_,os++[t],rfl,by rw [aD nqw]; exact z8,fun b u nb hb=>?_,by rw [aD nfw]; exact e8,aA,T8'.tp (Tp.upd fun xs z=>by rw [w8] at z; cases z),by rw [Qh]; omega,by rw [Qj (by omega)]; exact hg6,fun i g' hi hg' w t' e'=>?_,dn _ (by simp) fun x hx=>Jm _ hx⟩
     ·rw [aD (fun z=>by rw [z,hwt0] at hb; cases hb)]
      exact b8 b u nb hb
     ·rw [Qj (by omega)] at hg'
      exact Jm _ (pr6 i g' hi hg' w t' e')
   ·rintro σ H6 ⟨v5,fs,os,rfl,z6,b6,e6,w6,T6,hl6,hg6,pr6,dn6⟩
    refine ⟨qg,o,r,z6,nf,?_⟩
    have hole:=T6.len
    have s7:aG H (upd H6 qg (.dK r)):=fun b u hb=>by
     by_cases hbq:b=qg
     ·rw [hbq] at hb ⊢
      rw [aA,<- hrow]; exact hb
     ·rw [aD hbq]; exact b6 b u hbq hb
    refine ⟨n.toNat - (mm+1),by omega,_,_,mm+1,fs,os,rfl,rfl,s7,by rw [aD (Ne.symm nqf)]; exact e6,by rw [aD (Ne.symm nqw)]; exact w6,T6.tp (Tp.upd fun xs z=>by rw [z6] at z; cases z),hl6,fun i g' hi hg' w t e=>?_⟩
    by_cases him:i < mm
    ·exact pr6 i g' him hg' w t e
    ·have:i=mm:=by omega
     subst this
     rw [hg6] at hg'
     cases hg'
     have hs:=hRE.2 w t e
     rw [<- dG,Zi] at hs
     obtain ⟨⟨k,v⟩,hk,he⟩:=hs
     obtain ⟨j,hj⟩:=Qw.mp hk
     exact dn6 j k v t (Qa.mp hj).1 hj (by simpa using he)
  ·have hlen:mm=os.length:=by omega
   have hb:(!((os.drop mm).map V.int).isEmpty)=false:=by rw [hlen,List.drop_length]; rfl
   rw [hb]
   refine uE ?_
   refine ⟨_,rfl,k fd0 H3 fs os s3 hfd0 e3 T3 fun g hg w t e=>?_⟩
   obtain ⟨i,hi⟩:=Qw.mp hg
   exact pr3 i g (by have:=(Qa.mp hi).1; omega) hi w t e
structure StepsAt (H:Hp) (ps:List Addr) (ss:List (Nat×Int×Int)):Prop where
 len:ps.length=ss.length
 at_:∀ (i:Nat) p s,ps[i]?=some p->ss[i]?=some s->H p=some (.tup [.int (s.1:Nat),.int s.2.1,.int s.2.2])
theorem StepsAt.nil {H:Hp}:StepsAt H [] []:=⟨rfl,fun i p s h=>by simp at h⟩
theorem StepsAt.cons {H:Hp} {ps:List Addr} {ss:List (Nat×Int×Int)} (h:StepsAt H ps ss) {p:Addr} {w:Nat} {g t:Int} (hp:H p=some (.tup [.int (w:Nat),.int g,.int t])):StepsAt H (p::ps) ((w,g,t)::ss):=by
 refine ⟨by rw [Qz,Qz,h.len],fun i p' s h1 h2=>?_⟩
 cases i with
 | zero =>
  have e1:p=p':=by simpa using h1
  have e2:(w,g,t)=s:=by simpa using h2
  subst e1 e2
  exact hp
 | succ i=>exact h.at_ i p' s (by simpa using h1) (by simpa using h2)
theorem StepsAt.tp {H H':Hp} {ps:List Addr} {ss:List (Nat×Int×Int)} (h:StepsAt H ps ss) (e:Tp H H'):StepsAt H' ps ss:=⟨h.len,fun i p s a b=>e _ _ (h.at_ i p s a b)⟩
def rD (K:PySem.W.Frag):Sp:=fun vs H Q _=>∃ fdp last fs os first n ws hs jl,vs = [.ref fdp,.int last]/\H fdp=some (.dK fs)/\Tree ws hs n first H fs os/\n<=7/\os[jl]?=some last /\
 ∀ p H' ps ss,aG H H'->H p=none->H' p=some (.lst (ps.map V.ref))->StepsAt H' ps ss->bH ws hs first ss last->(first::ss.map (·.2.2)).Nodup->(∀ s∈ss,s.2.2∈os)->(0 < jl->ss≠[])->Q (.ref p) H'
theorem lP:FnScope ["found", "last", "some", "step"] ["found", "last"] (aI nB):=⟨rfl,rfl,rfl,by decide +kernel,rfl,by decide +kernel,by decide +kernel⟩
theorem tD {f:Addr} {fd:FuncData} (G:Fn K mg "way_to" nB ["found", "last"] f fd) (B:Bl mg):FnOk P w K mg base CX0 1 f fd ["found", "last"] (rD K):=by
 refine G.fn.ok lP (fun vs H Q E h=>?_) (fun cdv A outer s H vs Q E hr h=>?_)
 ·obtain ⟨fdp,last,fs,os,first,n,ws,hs,jl,rfl,_⟩:=h
  rfl
 ·obtain ⟨fdp,last,fs,os,first,n,ws,hs,jl,rfl,hfd,T,hn6,hjl,k⟩:=h
  refine ⟨_,(aC (aJ (i:=2) lP.nd rfl (Or.inl rfl) (mF aE))
   (aC (aJ (i:=3) lP.nd rfl (Or.inl rfl) (cI (fP hr) (pv 0) (pv 1) (fun _ _=>rfl)))
   (aC (rS PassesOwn.never (qB (aAj (pv 3)))
    (aC (bT (sA PySem.F.plainAttrs_list PySem.F.slot_list_append PySem.F.type_list_append pD (pv 2) (aB (pv 3) aE)))
    (aH (aJ (i:=3) lP.nd rfl (Or.inl rfl) (cI (fP hr) (pv 0) (aX cB (pv 3) aF (fun _ _=>rfl)) (fun _ _=>rfl))))))
   (aH (aZ (aAA (pv 2) (rT lX aF))))))),?_⟩
  have Tl:=T.len
  have hnsz:n.toNat < sizeLine:=by rw [sizeLine_eq]; omega
  refine ⟨iV (show 0<=1000 by decide),fun sm hsm=>?_⟩
  have s1:=aG.new (o:=.lst []) hsm
  have e1:upd H sm (.lst []) sm=some (.lst []):=aA
  generalize upd H sm (.lst [])=H1 at s1 e1 ⊢
  -- what stands at a found hand
  have vals:∀ (j:Nat) (t:Int),os[j]?=some t->∃ v,bJ fs (.inl t)=some v/\((j=0/\v=.non)∨∃ p w g i,0 < j/\v=.ref p/\H p=some (.tup [.int (w:Nat),.int g,.int t])/\eJ ws hs g w t/\i < j/\os[i]?=some g):=fun j t ht=>by
   by_cases hj:j=0
   ·subst hj
    rw [T.head] at ht
    cases ht
    exact ⟨_,T.v0,.inl ⟨rfl,rfl⟩⟩
   ·obtain ⟨p,w,g,i,a,b,c,d,e⟩:=T.par j t (by omega) ht
    exact ⟨_,a,.inr ⟨p,w,g,i,by omega,rfl,b,c,d,e⟩⟩
  obtain ⟨v0,hv0,_⟩:=vals jl last hjl
  refine ⟨_,rfl,_,rfl,fdp,v0,rfl,.inl ⟨fs,.inl last,.inl (s1 _ _ hfd),rfl,hv0.symm⟩,?_⟩
  refine ⟨fun m σ H2=>∃ (j:Nat) (t:Int) (v:V) (rps:List Addr) (ss:List (Nat×Int×Int)),m=j/\σ = [some (.ref fdp),some (.int last),some (.ref sm),some v]/\os[j]?=some t/\bJ fs (.inl t)=some v/\aG H H2/\H2 sm=some (.lst (rps.map V.ref))/\StepsAt H2 rps.reverse ss/\bH ws hs t ss last/\(t::ss.map (·.2.2)).Nodup /\
    (∀ x∈ss.map (·.2.2),∃ i:Nat,j < i/\os[i]?=some x)/\rps.length+j<=jl/\(j < jl->ss≠[]),
   ⟨jl,jl,last,v0,[],[],rfl,rfl,hjl,hv0,s1,e1,StepsAt.nil,rfl,by simp,fun x h=>by simp at h,by simp,fun h=>by omega⟩,?_⟩
  rintro j σ H2 ⟨_,t,v,rps,ss,rfl,rfl,hj,hv,s2,e2,S2,P2,N2,I2,L2',L3⟩
  have hjo:jl < os.length:=(Qa.mp hjl).1
  obtain ⟨v',hv',cs⟩:=vals j t hj
  rw [hv] at hv'
  cases hv'
  rcases cs with ⟨rfl,rfl⟩ | ⟨p,w,g,i,hj0,rfl,hp,hE,hij,hg⟩
  ·refine ⟨_,rfl,_,rfl,?_⟩
   refine uE ?_
   rw [T.head] at hj
   cases hj
   refine ⟨_,rfl,_,rfl,rfl,sm,_,rfl,SqL.of e2,fun p hp=>?_⟩
   have s3:=aG.new (o:=.lst (rps.map V.ref).reverse) hp
   refine k p _ rps.reverse ss (s2.trans s3) (s2.free hp) (by rw [aA,List.map_reverse]) (S2.tp (Tp.of s3)) P2 N2 (fun x hx=>?_) L3
   obtain ⟨i,_,hi⟩:=I2 _ (Js.mpr ⟨x,hx,rfl⟩)
   exact Qe hi
  ·refine ⟨_,rfl,_,rfl,?_⟩
   refine oN ?_
   obtain ⟨vg,hvg,_⟩:=vals i g hg
   refine ⟨fun σ' H'=>∃ m',m' < j/\∃ (j:Nat) (t:Int) (v:V) (rps:List Addr) (ss:List (Nat×Int×Int)),m'=j/\σ' = [some (.ref fdp),some (.int last),some (.ref sm),some v]/\os[j]?=some t/\bJ fs (.inl t)=some v/\aG H H'/\H' sm=some (.lst (rps.map V.ref))/\StepsAt H' rps.reverse ss/\bH ws hs t ss last/\(t::ss.map (·.2.2)).Nodup /\
    (∀ x∈ss.map (·.2.2),∃ i:Nat,j < i/\os[i]?=some x)/\rps.length+j<=jl/\(j < jl->ss≠[]),fun σ' H' z=>z,?_⟩
   have hsz:(rps.map V.ref).length < sizeLine:=by
    rw [Qd]
    exact Zk (Ja (Ja (Nat.le_add_right _ _) L2') (Ja (Zc hjo) Tl)) hnsz
   refine ⟨_,rfl,.inl ⟨rfl,_,SqL.of e2⟩,_,rfl,sm,_,.ref p,rfl,rfl,e2,hsz,?_⟩
   have s3:aG H (upd H2 sm (.lst (rps.map V.ref++[.ref p]))):=s2.wr hsm
   have e3:upd H2 sm (.lst (rps.map V.ref++[.ref p])) sm=_:=aA
   have S3:=S2.tp (Tp.upd (a:=sm) (u:=.lst (rps.map V.ref++[.ref p])) fun xs z=>by rw [e2] at z; cases z)
   generalize upd H2 sm (.lst (rps.map V.ref++[.ref p]))=H3 at s3 e3 S3 ⊢
   have hp3:=s3 _ _ hp
   refine ⟨_,rfl,_,rfl,p,_,1,.int g,rfl,rfl,SqT.of hp3,rfl,fdp,vg,rfl,.inl ⟨fs,.inl g,.inl (s3 _ _ hfd),rfl,hvg.symm⟩,?_⟩
   refine ⟨i,hij,i,g,vg,rps++[p],(w,g,t)::ss,rfl,rfl,hg,hvg,s3,by rw [Jk]; exact e3,?_,⟨rfl,hE,P2⟩,?_,?_,?_,fun _=>by simp⟩
   ·rw [List.reverse_append]
    exact S3.cons hp3
   ·show (g::t::ss.map (·.2.2)).Nodup
    rw [Je]
    refine ⟨fun hm=>?_,N2⟩
    have inj:∀ i',i < i'->os[i']?=some g->False:=fun i' h1 h2=>by
     have:=(List.getElem?_inj (Qa.mp hg).1 T.nd).mp (hg.trans h2.symm)
     omega
    rcases Qs.mp hm with e | hm
    ·exact inj j hij (by rw [e]; exact hj)
    ·obtain ⟨i',h1,h2⟩:=I2 g hm
     exact inj i' (by omega) h2
   ·intro x hx
    rcases Qs.mp (show x∈t::ss.map (·.2.2) from hx) with rfl | hx
    ·exact ⟨j,hij,hj⟩
    ·obtain ⟨i',h1,h2⟩:=I2 x hx
     exact ⟨i',by omega,h2⟩
   ·rw [Qh]
    show rps.length+1+i<=jl
    omega
def nR:Str:=("steps_to_least" : Str) ++ ".<locals>." ++ "<lambda>"
theorem iM {ws:List (List Int)} {hs able:List Int} {n g t:Int} {w:Nat} (hl:hs.length=ws.length):eJ (ws++[able]) (hs++[n]) g w t↔eJ ws hs g w t∨(w=hs.length/\g=n/\t∈able/\t≠n):=by
 unfold eJ
 rcases Nat.lt_trichotomy w hs.length with h | h | h
 ·rw [Qj h,Qj (by omega)]
  exact ⟨.inl,fun z=>z.elim id fun z=>by omega⟩
 ·subst h
  rw [Qv (Qi _),Xk,hl,Qv (Qi _),Xk,Zs (by omega:hs.length<=ws.length)]
  constructor
  ·rintro ⟨e,l,e2,h1,h2⟩
   have e:n=g:=by simpa using e
   have e2:able=l:=by simpa using e2
   subst e e2
   exact .inr ⟨rfl,rfl,h1,h2⟩
  ·rintro (⟨e,_⟩ | ⟨_,rfl,h1,h2⟩)
   ·cases e
   ·exact ⟨rfl,able,rfl,h1,h2⟩
 ·rw [Zs (by rw [Qh]; show hs.length+1<=w; omega),Zs (by omega:hs.length<=w)]
  constructor
  ·rintro ⟨e,_⟩; cases e
  ·rintro (⟨e,_⟩ | ⟨e,_⟩)
   ·cases e
   ·omega
def rE (K:PySem.W.Frag) (Pt:Addr):Sp:=fun vs H Q _=>∃ (x:V) (dp ap mp:Addr) (n:Int) (ws:List (List Int)) (hs able ms:List Int),vs = [x,.ref dp,.ref ap,.ref mp]/\oT K H x (.ref dp) n ws hs/\SqT K H ap (able.map V.int)/\cM n (dJ able)=true/\SqT K H mp (ms.map V.int)/\ms.length=n.toNat/\H Pt=some (.tab nR) /\
 ∀ p H' ps ss os last,aG H H'->H p=none->H' p=some (.lst (ps.map V.ref))->StepsAt H' ps ss->bH (ws++[able]) (hs++[n]) n ss last->(n::ss.map (·.2.2)).Nodup->ss≠[]->rC (ws++[able]) (hs++[n]) os->n∈os ->
  (∀ o∈os,o≠n->0<=o/\o < n/\ms.getD last.toNat 0<=ms.getD o.toNat 0)->last∈os->last≠n->(∀ s∈ss,s.2.2∈os)->Q (.ref p) H'
theorem lQ:FnScope ["book", "deal", "able", "measures", "nobody", "found", "last"] ["book", "deal", "able", "measures"] (aI fV):=⟨rfl,rfl,rfl,by decide +kernel,rfl,by decide +kernel,by decide +kernel⟩
theorem zL {f fHd fR fW' c Pt:Addr} {fd dHd dR dW':FuncData} (G:Fn K mg "steps_to_least" fV ["book", "deal", "able", "measures"] f fd) (hc:fd.code=.ref c) (Z:Lm K mg base c Pt) (B:Bl mg)
  (GH:Fn K mg "handing" fU ["book", "deal"] fHd dHd) (GR:Fn K mg "reached" iC ["rows", "first"] fR dR) (GW:Fn K mg "way_to" nB ["found", "last"] fW' dW'):FnOk P w K mg base CX0 2 f fd ["book", "deal", "able", "measures"] (rE K Pt):=by
 have OH:FnOk P w K mg base CX0 1 fHd dHd ["book", "deal"] (kO K):=nO GH B
 have OR:FnOk P w K mg base CX0 1 fR dR ["rows", "first"] (kP K):=nQ GR B
 have OW:FnOk P w K mg base CX0 1 fW' dW' ["found", "last"] (rD K):=tD GW B
 refine G.fn.okC hc lQ (fun vs H Q E h=>?_) (fun A outer s H vs Q E hr h=>?_)
 ·obtain ⟨x,dp,ap,mp,n,ws,hs,able,ms,rfl,_⟩:=h
  rfl
 ·obtain ⟨x,dp,ap,mp,n,ws,hs,able,ms,rfl,g,hap,hwk,hmp,hml,hT,k⟩:=h
  have r1:Room 1 _:=hr
  refine ⟨_,(aC (aJ (i:=4) lQ.nd rfl (Or.inr rfl) (aX cB (pv 0) aF (fun _ _=>rfl)))
   (aC (aJ (i:=5) lQ.nd rfl (Or.inl rfl) (cA GR OR r1 rfl (aB (aM yA (cA GH OH r1 rfl (aB (pv 0) (aB (pv 1) aE)))
     (mF (aB (yW (own:=["hand"]) (fr:=[1]) (frn:=["deal"]) (cP (aI fV) ["book", "deal", "able", "measures", "nobody", "found", "last"] rfl rfl (by decide +kernel)) rfl (tV (pv 2))
      (fun _ _ _ _=>aR (i:=0) (show (["hand", "deal"]:List Str).Nodup by decide +kernel) rfl (Or.inl rfl)) (fun _ _ _ _=>gU) (fun _ _ _ _=>pv 0) (fun _ _ _ _=>aU (iU (K:=K) rfl) rfl B.len eL (aB (pv 1) aE))) aE)))
     (aB (pv 4) aE))))
   (aC (aJ (i:=6) lQ.nd rfl (Or.inl rfl) (wT 3 rfl r1 rfl B.min Z rfl (q:=nR) rfl
     (yX (own:=["hand"]) (fr:=[4]) (frn:=["nobody"]) (cP (aI fV) ["book", "deal", "able", "measures", "nobody", "found", "last"] rfl rfl (by decide +kernel)) rfl (pv 5)
      (fun _ _ _ _=>aR (i:=0) (show (["hand", "nobody"]:List Str).Nodup by decide +kernel) rfl (Or.inl rfl)) (fun _ _ _ _=>aBz (aY jG (pv 0) (pv 1) (bC _))) (fun _ _ _ _=>pv 0)) rfl rfl))
   (aH (aZ (cA GW OW r1 rfl (aB (pv 5) (aB (pv 6) aE)))))))),?_⟩
  obtain ⟨hl12,hn1,hn6⟩:=g.len
  obtain ⟨dp',edp,hdpT⟩:=bP.mp g.2.2.1
  cases edp
  obtain ⟨a,b,ys,rfl,ha,hb2,hys⟩:=nG g.1
  obtain ⟨_,_,hw12,hws⟩:=bF g.2.1
  obtain ⟨hdl,hdm⟩:=bM g.2.2.2
  obtain ⟨able0,able1,able2⟩:=bA hwk
  have hab6:able.length<=6:=by have:=nK (by omega) able1 able2; omega
  have hedge:∀ g w t,eJ (ws++[able]) (hs++[n]) g w t->0<=t/\t < n+1:=fun g w t e=>by
   rcases (iM hdl).mp e with ⟨_,l,h1,h2,_⟩ | ⟨_,_,h2,_⟩
   ·have:=(bA (hws l (Qe h1))).2.1 t h2; omega
   ·have:=able1 t h2; omega
  refine ⟨_,rfl,a,_,0,.int n,rfl,rfl,ha,rfl,?_⟩
  refine ⟨_,rfl,_,rfl,.ref a,.ref dp,n,ws,hs,rfl,g,fun rp H2 qs rs s2 hrp hqs R2 hlr ER=>?_⟩
  refine ⟨_,rfl,ap,rfl,⟨_,s2.seqT hap⟩,wW (K:=K) (a:=ap) (xs:=able.map V.int) (fun σ=>∃ v,σ = [v,some (.ref dp)]) (fun i zs H3=>H3=H2/\zs.length<=i/\lH (fun w t=>w=hs.length/\t∈able.take i) zs) (iV (by rw [Qd]; omega)) ⟨_,rfl⟩ ⟨rfl,Qi _,lH.nil fun w t z=>by simp at z⟩
   (fun i zs H3 z=>z.2.1) (fun i zs H3 z=>by rw [z.1]; exact s2.seqT hap) ?_ ?_⟩
  ·rintro i zs σ v H3 hv ⟨v0,rfl⟩ ⟨rfl,hz,hE⟩ hsz
   obtain ⟨t,ht,rfl⟩:=rB hv
   refine cN ?_
   refine ⟨_,rfl,_,rfl,dp,_,rfl,.inr (s2.seqT hdpT),.inl t,rfl,hsz,⟨_,rfl⟩,rfl,Ja (eE _ _ _) (by omega),?_⟩
   rw [Qd]
   refine (hE.put hs.length t).congr fun w t'=>?_
   rw [Zj,ht]
   constructor
   ·rintro (⟨h1,h2⟩ | ⟨h1,h2⟩)
    ·exact ⟨h1,Jm _ h2⟩
    ·exact ⟨h1,by rw [h2]; simp⟩
   ·rintro ⟨h1,h2⟩
    rcases Jq.mp h2 with h | h
    ·exact .inl ⟨h1,h⟩
    ·exact .inr ⟨h1,by simpa using h⟩
  ·rintro zs H3 ⟨rfl,hz,hE⟩ dq hdq
   have hrp2:H3 rp=some (.lst (qs.map V.ref)):=R2.lst
   have sd:=aG.new (o:=.dK zs) hdq
   have hdq0:H dq=none:=s2.free hdq
   have ed:upd H3 dq (.dK zs) dq=some (.dK zs):=aA
   have Rd:=R2.same sd
   have s3:=s2.trans sd
   generalize upd H3 dq (.dK zs)=H4 at sd ed Rd s3 ⊢
   refine ⟨sz1 _,fun lq hlq=>?_⟩
   have sl:=aG.new (o:=.lst [.ref dq]) hlq
   have el:upd H4 lq (.lst [.ref dq]) lq=some (.lst [.ref dq]):=aA
   have s4:=s3.trans sl
   have Rl:=Rd.same sl
   have edl:=sl _ _ ed
   generalize upd H4 lq (.lst [.ref dq])=H5 at sl el s4 Rl edl ⊢
   have hqn:qs.length=n.toNat:=by rw [R2.len,hlr]
   refine ⟨rp,lq,_,_,rfl,rfl,Rl.lst,el,by rw [Qd,sizeLine_eq]; show _+1<=_; omega,fun rq hrq=>?_⟩
   have sr:=aG.new (o:=.lst (qs.map V.ref++[.ref dq])) hrq
   have s5:=s4.trans sr
   have er:upd H5 rq (.lst (qs.map V.ref++[.ref dq])) rq=some (.lst ((qs++[dq]).map V.ref)):=by rw [aA,Jk]; rfl
   have edr:=sr _ _ edl
   have Rr:=Rl.same sr
   generalize upd H5 rq (.lst (qs.map V.ref++[.ref dq]))=H6 at sr s5 er edr Rr ⊢
   have R6:Rows H6 rq (qs++[dq]) (rs++[zs]):=by
    refine ⟨er,by rw [Qh,Qh,R2.len]; rfl,?_,fun g q r h1 h2=>?_⟩
    ·rw [Xj]
     refine ⟨R2.nd,by simp,fun x hx y hy e=>?_⟩
     rw [Qm.mp hy] at e
     obtain ⟨i,hi⟩:=Qw.mp hx
     have hil:i < rs.length:=by rw [<- R2.len]; exact (Qa.mp hi).1
     have:=R2.row i x _ hi (Qb hil)
     rw [e,hdq] at this; cases this
    ·by_cases hg:g < qs.length
     ·rw [Qj hg] at h1
      rw [Qj (by rw [<- R2.len]; exact hg)] at h2
      exact Rr.row g q r h1 h2
     ·have eg:g=qs.length:=by
       have:=(Qa.mp h1).1
       rw [Qh] at this
       simp at this
       omega
      subst eg
      rw [Qv (Qi _),Xk] at h1
      rw [R2.len,Qv (Qi _),Xk] at h2
      have e1:dq=q:=by simpa using h1
      have e2:zs=r:=by simpa using h2
      subst e1 e2
      exact edr
   have E6:sZ (eJ (ws++[able]) (hs++[n])) (rs++[zs]) 100:=by
    intro g r hgr
    by_cases hg:g < rs.length
    ·rw [Qj hg] at hgr
     obtain ⟨e1,e2⟩:=ER g r hgr
     refine ⟨e1.congr fun w t=>?_,e2⟩
     rw [iM hdl]
     exact ⟨.inl,fun z=>z.elim id fun z=>by omega⟩
    ·have eg:g=rs.length:=by
      have:=(Qa.mp hgr).1
      rw [Qh] at this
      simp at this
      omega
     subst eg
     rw [Qv (Qi _),Xk] at hgr
     have e2:zs=r:=by simpa using hgr
     subst e2
     refine ⟨hE.congr fun w t=>?_,by rw [Qd] at hz; omega⟩
     rw [iM hdl,Qd,Xy]
     constructor
     ·rintro ⟨h1,h2⟩
      have:=able1 t h2
      exact .inr ⟨h1,by omega,h2,by omega⟩
     ·rintro (⟨h1,_⟩ | ⟨h1,_,h2,_⟩)
      ·have h3:hs[w]?=some ((rs.length:Nat):Int):=h1
       have:=g.hand h3
       omega
      ·exact ⟨h1,h2⟩
   refine ⟨_,rfl,rq,n,qs++[dq],rs++[zs],n+1,ws++[able],hs++[n],rfl,R6,by rw [Qh,hlr]; show _+1=_; omega,E6,hedge,by omega,by omega,by omega,fun fdp H7 fs os s7 hfd e7 T7 C7=>?_⟩
   have s57:=s5.trans s7
   have T7l:=T7.len
   have hfl:=T7.flen
   have hnos:n∈os:=Qe T7.head
   refine ⟨_,rfl,fdp,fs,rfl,e7,fun o=>wV (a:=fdp) (o:=o) (kvs:=fs) (fun σ=>∃ v,σ = [v,some (.int n)]) (fun i zs H8=>H8=upd H7 fdp (.frz o (.dK fs))/\zs=((os.take i).filter fun o=>decide (o≠n)).map V.int) (iV (by omega)) ⟨_,rfl⟩ ⟨rfl,rfl⟩ (fun i zs H8 z=>?_) (fun i zs H8 z=>by rw [z.1]; exact aA) ?_ ?_⟩
   ·rw [z.2,Qd]
    exact Ja (Wl _ _) (by rw [Xe]; omega)
   ·rintro i zs' σ p H8 hp ⟨v,rfl⟩ ⟨rfl,rfl⟩ hsz
    obtain ⟨ov,hov,hpe⟩:∃ ov,os[i]?=some ov/\p.1=.inl ov:=by
     have e:=congrArg (fun l=>l[i]?) T7.keys
     simp only [Qg] at e
     rw [hp] at e
     cases q:os[i]? with
     | none=>rw [q] at e; cases e
     | some ov=>rw [q] at e; exact ⟨ov,rfl,Option.some.inj e⟩
    have etake:os.take (i+1)=os.take i++[ov]:=by rw [Zj,hov]; rfl
    rw [hpe]
    refine ⟨_,rfl,_,rfl,rfl,_,rfl,?_⟩
    refine gM (fun c=>?_) (fun c=>?_)
    ·have hne:ov≠n:=fun z=>by rw [z] at c; simp [kV] at c
     refine ⟨_,rfl,hsz,⟨_,rfl⟩,rfl,?_⟩
     rw [etake,Wx,Jk]
     congr 1
     simp [hne,kV]
    ·have hne:ov=n:=by simpa [kV] using c
     refine ⟨⟨_,rfl⟩,rfl,?_⟩
     rw [etake,Wx,hne]
     simp
   ·rintro zs' H8 ⟨rfl,rfl⟩ lp hlp
    rw [hfl,Xy] at *
    have nlf:fdp≠lp:=fun z=>by rw [<- z,aA] at hlp; cases hlp
    have hlp7:H7 lp=none:=by rw [aD (Ne.symm nlf)] at hlp; exact hlp
    have s8:aG H7 (upd (upd (upd H7 fdp (.frz o (.dK fs))) lp (.lst ((os.filter fun o=>decide (o≠n)).map V.int))) fdp (.dK fs)):=fun b u hb=>by
     by_cases hbf:b=fdp
     ·rw [hbf] at hb ⊢
      rw [aA,<- e7]; exact hb
     ·rw [aD hbf,aD (fun z=>by rw [z,hlp7] at hb; cases hb),aD hbf]
      exact hb
    have l8:(upd (upd (upd H7 fdp (.frz o (.dK fs))) lp (.lst ((os.filter fun o=>decide (o≠n)).map V.int))) fdp (.dK fs)) lp=some (.lst ((os.filter fun o=>decide (o≠n)).map V.int)):=by
     rw [aD (Ne.symm nlf),aA]
    generalize upd (upd (upd H7 fdp (.frz o (.dK fs))) lp (.lst ((os.filter fun o=>decide (o≠n)).map V.int))) fdp (.dK fs)=H8 at s8 l8 ⊢
    have s58:=s57.trans s8
    have hrng:∀ o∈os,o≠n->0<=o/\o < n:=fun o ho hne=>by
     have:=T7.rng o ho
     omega
    obtain ⟨t0,ht0⟩:∃ t,t∈able:=List.exists_mem_of_ne_nil _ able0
    have ht0n:=able1 t0 ht0
    have ht0o:t0∈os:=C7 n hnos hs.length t0 ((iM hdl).mpr (.inr ⟨rfl,rfl,ht0,by omega⟩))
    refine ⟨os.filter fun o=>decide (o≠n),fun o=>ms.getD o.toNat 0,.ref mp,⟨lp,rfl,.inl (SqL.of l8)⟩,Yi (a:=t0) (Xw.mpr ⟨ht0o,decide_eq_true (by omega)⟩),s58 _ _ hT,rfl,fun o ho=>?_,fun j m H9 s9 hj hmin _=>?_⟩
    ·obtain ⟨ho1,ho2⟩:=Xw.mp ho
     obtain ⟨o0,o1⟩:=hrng o ho1 (of_decide_eq_true ho2)
     refine ⟨o0,by omega,mp,_,rfl,.inl (s58.seqT hmp),?_⟩
     rw [Qg,Qb (by omega)]
     show some (V.int _)=some (V.int (ms.getD o.toNat 0))
     rw [Jt,Qb (by omega)]
     rfl
    ·obtain ⟨hm1,hm2⟩:=Xw.mp (Qe hj)
     have hmn:m≠n:=of_decide_eq_true hm2
     obtain ⟨jl,hjl⟩:=Qw.mp hm1
     have s59:=s58.trans s9
     have s79:=s8.trans s9
     refine ⟨_,rfl,_,rfl,fdp,m,fs,os,n,n+1,ws++[able],hs++[n],jl,rfl,s79 _ _ e7,T7.tp (Tp.of s79),by omega,hjl,fun p H10 ps ss s10 hp hps S10 P10 N10 in10 ne10=>?_⟩
     refine k p H10 ps ss os m (s59.trans s10) (s59.free hp) hps S10 P10 N10 (ne10 ?_) C7 hnos (fun o ho hne=>⟨(hrng o ho hne).1,(hrng o ho hne).2,hmin o (Xw.mpr ⟨ho,decide_eq_true hne⟩)⟩) hm1 hmn in10
     rcases Nat.eq_zero_or_pos jl with z | z
     ·rw [z,T7.head] at hjl
      exact absurd (Option.some.inj hjl).symm hmn
     ·exact z
theorem tE {n:Int} {hs:List Int} {h:Int} (h0:0<=h) (h1:h < n):atI ((dX n hs).map V.int) h=some (.int ((hs.count h:Nat):Int)):=by
 have hlt:h.toNat < n.toNat:=by omega
 have hcast:((h.toNat:Nat):Int)=h:=by omega
 have h1:((dX n hs).map V.int)[h.toNat]?=some (.int ((hs.count h:Nat):Int)):=by rw [Qg,nN hlt,hcast]; rfl
 have h2:=cH h1
 rwa [hcast] at h2
def lC (n:Int) (ws:List (List Int)) (hs:List Int) (last:Int) (i:Int) (ss:List (Nat×Int×Int)):Prop :=
 (ss = []/\∀ h:Int,0<=h->h < i->hs.count last < hs.count h->∃ os:List Int,h∈os/\rC ws hs os/\last∉os) ∨
 ∃ h,ss≠[]/\bH ws hs h ss last/\(h::ss.map (·.2.2)).Nodup/\0<=h/\h < n/\hs.count last < hs.count h
def rF (K:PySem.W.Frag):Sp:=fun vs H Q _=>∃ (x y:V) (n:Int) (ws:List (List Int)) (hs:List Int) (k:Nat) (last:Int),vs = [x,y,.int k]/\oT K H x y n ws hs/\hs[k]?=some last /\
 ∀ p H' ps ss,aG H H'->H p=none->H' p=some (.lst (ps.map V.ref))->StepsAt H' ps ss->lC n ws hs last n ss->Q (.ref p) H'
theorem cR:FnScope ["book", "deal", "work", "many", "rows", "last", "best", "hand", "found", "some"] ["book", "deal", "work"] (aI jR):=⟨rfl,rfl,rfl,by decide +kernel,rfl,by decide +kernel,by decide +kernel⟩
theorem zM {f fC fHd fR fW':Addr} {fd dC dHd dR dW':FuncData} (G:Fn K mg "steps_of_take" jR ["book", "deal", "work"] f fd) (B:Bl mg) (GC:Fn K mg "counted" eS ["hands", "deal"] fC dC)
  (GH:Fn K mg "handing" fU ["book", "deal"] fHd dHd) (GR:Fn K mg "reached" iC ["rows", "first"] fR dR) (GW:Fn K mg "way_to" nB ["found", "last"] fW' dW'):FnOk P w K mg base CX0 2 f fd ["book", "deal", "work"] (rF K):=by
 have OC:FnOk P w K mg base CX0 1 fC dC ["hands", "deal"] (iK K):=nH GC B
 have OH:FnOk P w K mg base CX0 1 fHd dHd ["book", "deal"] (kO K):=nO GH B
 have OR:FnOk P w K mg base CX0 1 fR dR ["rows", "first"] (kP K):=nQ GR B
 have OW:FnOk P w K mg base CX0 1 fW' dW' ["found", "last"] (rD K):=tD GW B
 refine G.fn.ok cR (fun vs H Q E h=>?_) (fun cdv A outer s H vs Q E hr h=>?_)
 ·obtain ⟨x,y,n,ws,hs,k,last,rfl,_⟩:=h
  rfl
 ·obtain ⟨x,y,n,ws,hs,kk,last,rfl,g,hlast,k⟩:=h
  have r1:Room 1 _:=hr
  refine ⟨_,(aC (aJ (i:=3) cR.nd rfl (Or.inl rfl) (cA GC OC r1 rfl (aB (aX cB (pv 0) aF (fun _ _=>rfl)) (aB (pv 1) aE))))
  (aC (aJ (i:=4) cR.nd rfl (Or.inl rfl) (cA GH OH r1 rfl (aB (pv 0) (aB (pv 1) aE))))
  (aC (aJ (i:=5) cR.nd rfl (Or.inl rfl) (aX cB (pv 1) (pv 2) (fun _ _=>rfl)))
  (aC (aJ (i:=6) cR.nd rfl (Or.inl rfl) (mF aE))
  (aC (cK PassesOwn.never rfl (bU rfl B.range (aB (aX cB (pv 0) aF (fun _ _=>rfl)) aE)) (aR (i:=7) cR.nd rfl (Or.inl rfl))
   (aC (aJ (i:=8) cR.nd rfl (Or.inl rfl) (cA GR OR r1 rfl (aB (pv 4) (aB (pv 7) aE))))
  (aH (cG (PW.pt (xK (qB (aBB (fP hr) (pv 5) (pv 8)) (by with_unfolding_all rfl)) (uT (aY uZ (aX cB (pv 3) (pv 7) (fun _ _=>rfl)) (aX cB (pv 3) (pv 5) (fun _ _=>rfl)) (bC _)))))
   (aC (aJ (i:=9) cR.nd rfl (Or.inl rfl) (cA GW OW r1 rfl (aB (pv 8) (aB (pv 5) aE))))
  (aH (cG (PW.pt (gI (aY oW (aU aV rfl B.len eL (aB (pv 6) aE)) aF (bC _)) (fG (aY lY (aU aV rfl B.len eL (aB (pv 9) aE)) (aU aV rfl B.len eL (aB (pv 6) aE)) (bC _)))))
   (aH (aJ (i:=6) cR.nd rfl (Or.inl rfl) (pv 9)))
   bI)))
   bI))))
  (aH (aZ (pv 6)))))))),?_⟩
  obtain ⟨hl12,hn1,hn6⟩:=g.len
  obtain ⟨a,b,ys,rfl,ha,hb2,hys⟩:=nG g.1
  obtain ⟨dp,rfl,hdp⟩:=bP.mp g.2.2.1
  obtain ⟨_,_,hw12,hws⟩:=bF g.2.1
  obtain ⟨hdl,hdm⟩:=bM g.2.2.2
  have hedge:∀ g w t,eJ ws hs g w t->0<=t/\t < n:=fun g w t e=>by
   obtain ⟨_,l,h1,h2,_⟩:=e
   exact (bA (hws l (Qe h1))).2.1 t h2
  have lr:0<=last/\last < n:=by
   have hk:kk < hs.length:=(Qa.mp hlast).1
   have hl:=Qb (show kk < ws.length by omega)
   have:=hdm kk _ _ hlast hl
   exact (bA (hws _ (Qe hl))).2.1 last this
  refine ⟨_,rfl,a,_,0,.int n,rfl,rfl,ha,rfl,_,rfl,n,dp,hs,rfl,hdp,by omega,hn6,fun mp H1 s1 emp=>?_⟩
  dsimp only [aT]
  refine ⟨_,rfl,_,rfl,.ref a,.ref dp,n,ws,hs,rfl,⟨s1.den _ _ g.1,g.2.1,s1.den _ _ g.2.2.1,g.2.2.2⟩,fun rp H2 qs rs s2 nrp nqs R2 hlr ER=>?_⟩
  dsimp only [aT]
  have s12:=s1.trans s2
  refine ⟨_,rfl,_,rfl,dp,_,_,_,rfl,rfl,s12.seqT hdp,cH (v:=.int last) (by rw [Qg,hlast]; rfl),?_⟩
  dsimp only [aT]
  refine ⟨iV (Jz _),fun bp hbp=>?_⟩
  have nbp:H bp=none:=s12.free hbp
  have s23:=aG.new (o:=.lst []) hbp
  have eb:upd H2 bp (.lst []) bp=some (.lst (([]:List Addr).map V.ref)):=aA
  generalize upd H2 bp (.lst [])=H3 at s23 eb ⊢
  dsimp only [aT]
  have s13:=s12.trans s23
  refine ⟨_,rfl,a,_,0,.int n,rfl,rfl,s13.seqT ha,rfl,n,rfl,by omega,by omega,eN (lo:=0) (n:=n.toNat) (fun i σ H4=>∃ (bp:Addr) (ps:List Addr) (ss:List (Nat×Int×Int)) (v7 v8 v9:Option V),σ = [some (.ref a),some (.ref dp),some (.int kk),some (.ref mp),some (.ref rp),some (.int last),some (.ref bp),v7,v8,v9]/\aG H3 H4/\H bp=none/\H4 bp=some (.lst (ps.map V.ref))/\StepsAt H4 ps ss/\lC n ws hs last i ss)
   ⟨bp,[],[],_,_,_,rfl,aG.refl _,nbp,eb,StepsAt.nil,.inl ⟨rfl,fun h h0 h1=>by omega⟩⟩ ?_ ?_⟩
  ·rintro i σ H4 hi ⟨bp,ps,ss,v7,v8,v9,rfl,s4,nb,e4,S4,T4⟩
   dsimp only [aT]
   rw [Zo]
   have s24:=s23.trans s4
   have s14:=s13.trans s4
   refine ⟨_,rfl,_,rfl,rp,(i:Int),qs,rs,n,ws,hs,rfl,R2.same s24,hlr,ER,hedge,by omega,by omega,by omega,fun fp H5 fs os s5 nfp ef T5 C5=>?_⟩
   dsimp only [aT]
   have s15:=s14.trans s5
   have hio:(i:Int)∈os:=Qe T5.head
   refine ⟨_,rfl,_,rfl,fp,_,rfl,gN.k (k:=.inl last) ef,_,rfl,?_⟩
   rw [lO T5.keys last]
   have emp5:=(s2.trans (s24.trans s5)) _ _ emp
   have notB:last∉os->lC n ws hs last ((i+1:Nat):Int) ss:=fun hno=>by
    rcases T4 with ⟨e,f⟩ | q
    ·refine .inl ⟨e,fun h h0 h1 hc=>?_⟩
     by_cases c:h < i
     ·exact f h h0 c hc
     ·rw [show h=(i:Int) by omega]
      exact ⟨os,hio,C5,hno⟩
    ·exact .inr q
   refine gM (fun c1=>?_) (fun c1=>?_)
   ·have hlo:last∈os:=of_decide_eq_true c1
    refine ⟨_,rfl,_,rfl,mp,_,_,_,rfl,rfl,SqT.of emp5,tE (by omega) (by omega),_,rfl,_,rfl,mp,_,_,_,rfl,rfl,SqT.of emp5,tE lr.1 lr.2,_,_,rfl,rfl,_,rfl,?_⟩
    refine gM (fun c2=>?_) (fun c2=>?_)
    ·have hc:hs.count last < hs.count (i:Int):=by have:=of_decide_eq_true c2; omega
     obtain ⟨jl,hjl⟩:=Qw.mp hlo
     refine ⟨_,rfl,_,rfl,fp,last,fs,os,(i:Int),n,ws,hs,jl,rfl,ef,T5,by omega,hjl,fun p H6 ps' ss' s6 np e6 S6 P6 N6 _ J6=>?_⟩
     dsimp only [aT]
     have hj0:0 < jl:=by
      rcases Nat.eq_zero_or_pos jl with z | z
      ·rw [z,T5.head] at hjl
       have:(i:Int)=last:=Option.some.inj hjl
       rw [this] at hc; omega
      ·exact z
     have e46:=(s5.trans s6) _ _ e4
     refine ⟨_,rfl,bp,_,rfl,.inl (SqL.of e46),rfl,_,rfl,?_⟩
     have new:lC n ws hs last ((i+1:Nat):Int) ss':=.inr ⟨i,J6 hj0,P6,N6,by omega,by omega,hc⟩
     have s36:=s4.trans (s5.trans s6)
     refine gM (fun c3=>?_) (fun c3=>?_)
     ·exact ⟨_,rfl,p,ps',ss',_,_,_,rfl,s36,s15.free np,e6,S6,new⟩
     ·have hold:lC n ws hs last ((i+1:Nat):Int) ss:=by
       rcases T4 with ⟨e,_⟩ | q
       ·exfalso
        apply c3
        rw [Qd,S4.len,e]
        rfl
       ·exact .inr q
      refine ⟨_,rfl,p,_,rfl,.inl (SqL.of e6),_,rfl,bp,_,rfl,.inl (SqL.of e46),_,_,rfl,rfl,_,rfl,?_⟩
      refine gM (fun c4=>?_) (fun c4=>?_)
      ·exact ⟨_,rfl,p,ps',ss',_,_,_,rfl,s36,s15.free np,e6,S6,new⟩
      ·exact ⟨bp,ps,ss,_,_,_,rfl,s36,nb,e46,S4.tp (Tp.of (s5.trans s6)),hold⟩
    ·refine ⟨bp,ps,ss,_,_,_,rfl,s4.trans s5,nb,s5 _ _ e4,S4.tp (Tp.of s5),?_⟩
     have hnc:¬ hs.count last < hs.count (i:Int):=fun z=>c2 (decide_eq_true (by omega))
     rcases T4 with ⟨e,f⟩ | q
     ·refine .inl ⟨e,fun h h0 h1 hc=>?_⟩
      by_cases c:h < i
      ·exact f h h0 c hc
      ·rw [show h=(i:Int) by omega] at hc
       exact absurd hc hnc
     ·exact .inr q
   ·exact ⟨bp,ps,ss,_,_,_,rfl,s4.trans s5,nb,s5 _ _ e4,S4.tp (Tp.of s5),notB fun z=>c1 (decide_eq_true z)⟩
  ·rintro σ H4 ⟨bp,ps,ss,v7,v8,v9,rfl,s4,nb,e4,S4,T4⟩
   rw [show ((n.toNat:Nat):Int)=n by omega] at T4
   exact ⟨_,rfl,k bp H4 ps ss (s13.trans s4) nb e4 S4 T4⟩
end
def Lv (n:Int) (ws:List (List Int)) (hs:List Int) (lv:Int->Int):Prop :=
 (∀ h:Int,0<=h->h < n->lv h<=hs.count h/\((hs.count h:Nat):Int)<=lv h+1)/\∀ (w:Nat) (g:Int) (l:List Int),hs[w]?=some g->ws[w]?=some l->∀ t∈l,lv g<=lv t
def i1 (a b:Int):Int:=if a=b then 1 else 0
theorem vN:∀ {hs:List Int} {w:Nat} {g t:Int},hs[w]?=some g->∀ y:Int,(((hs.set w t).count y:Nat):Int)+i1 g y=(hs.count y:Nat)+i1 t y
 | [],w,g,t,h,y=>by simp at h
 | x::hs,0,g,t,h,y=>by
  have e:x=g:=by simpa using h
  subst e
  rw [List.set_cons_zero,Jw,Jw]
  unfold i1
  by_cases c1:t=y <;> by_cases c2:x=y <;> simp [c1,c2] <;> omega
 | x::hs,w+1,g,t,h,y=>by
  have ih:=vN (hs:=hs) (w:=w) (g:=g) (t:=t) (by simpa using h) y
  rw [List.set_cons_succ,Jw,Jw]
  omega
def goS (hs:List Int) (ss:List (Nat×Int×Int)):List Int:=ss.foldl (fun hs s=>hs.set s.1 s.2.2) hs
theorem eM:∀ (ss:List (Nat×Int×Int)) (hs:List Int),(goS hs ss).length=hs.length
 | [],_=>rfl
 | s::ss,hs=>by
  show (goS (hs.set s.1 s.2.2) ss).length=_
  rw [eM ss,Yv]
theorem nS {ws:List (List Int)} {x h:Int} {w:Nat} {t':Int}:∀ {ss:List (Nat×Int×Int)} {hs:List Int} {t:Int},hs[w]?=some h->bH ws hs t ss x->(∀ s∈ss,s.2.1≠h)->bH ws (hs.set w t') t ss x
 | [],_,_,_,p,_=>p
 | s::ss,hs,t,hw,⟨e1,⟨e2,e3⟩,p⟩,hn=>by
  refine ⟨e1,⟨?_,e3⟩,nS hw p fun s' hs'=>hn s' (Qq _ hs')⟩
  rw [Xi]
  by_cases c:w=s.1
  ·rw [<- c,hw] at e2
   have:=hn s (Qr ..)
   rw [e1] at this
   exact absurd (Option.some.inj e2).symm this
  ·rw [if_neg c]; exact e2
theorem eF {ws:List (List Int)} {hs:List Int} {x:Int}:∀ {ss:List (Nat×Int×Int)} {t:Int},bH ws hs t ss x->∀ s∈ss,s.2.1=t∨∃ s'∈ss,s'.2.2=s.2.1
 | [],_,_,s,h=>(Qy h).elim
 | s0::ss,t,⟨e1,_,p⟩,s,h=>by
  rcases Qs.mp h with rfl | h
  ·exact .inl e1
  ·rcases eF p s h with z | ⟨s',z1,z2⟩
   ·exact .inr ⟨s0,Qr ..,z.symm⟩
   ·exact .inr ⟨s',Qq _ z1,z2⟩
theorem bX {ws:List (List Int)} {hs:List Int} {x:Int}:∀ {ss:List (Nat×Int×Int)} {t:Int},bH ws hs t ss x->∀ s∈ss,eJ ws hs s.2.1 s.1 s.2.2
 | [],_,_,s,h=>(Qy h).elim
 | s0::ss,t,⟨e1,e2,p⟩,s,h=>by
  rcases Qs.mp h with rfl | h
  ·rw [e1]; exact e2
  ·exact bX p s h
theorem nT {ws:List (List Int)} {x:Int}:∀ {ss:List (Nat×Int×Int)} {hs:List Int} {h:Int},bH ws hs h ss x->(h::ss.map (·.2.2)).Nodup ->
  (∀ y:Int,(((goS hs ss).count y:Nat):Int)+i1 h y=(hs.count y:Nat)+i1 x y) /\
  ∀ (w:Nat) (g:Int),(goS hs ss)[w]?=some g->hs[w]?=some g∨∃ s∈ss,s.1=w/\s.2.2=g/\hs[w]?=some s.2.1
 | [],hs,h,p,_=>by
  have e:h=x:=p
  subst e
  exact ⟨fun y=>rfl,fun w g q=>.inl q⟩
 | s::ss,hs,h,⟨e1,⟨e2,e3⟩,p⟩,nd=>by
  have nd2:=Je.mp nd
  have hne:∀ s'∈ss,s'.2.1≠h:=fun s' hs' z=>by
   rcases eF p s' hs' with q | ⟨s2,q1,q2⟩
   ·exact nd2.1 (by rw [<- z,q]; exact Qr ..)
   ·exact nd2.1 (Qq _ (Js.mpr ⟨s2,q1,q2.trans z⟩))
  have p':=nS (t':=s.2.2) e2 p hne
  obtain ⟨i1',i2'⟩:=nT p' (by have:=nd2.2; rwa [Qu] at this)
  refine ⟨fun y=>?_,fun w g q=>?_⟩
  ·have a:=i1' y
   have b:=vN (t:=s.2.2) e2 y
   show (((goS (hs.set s.1 s.2.2) ss).count y:Nat):Int)+i1 h y=_
   omega
  ·have q':(goS (hs.set s.1 s.2.2) ss)[w]?=some g:=q
   rcases i2' w g q' with z | ⟨s',z1,z2,z3,z4⟩
   ·rw [Xi] at z
    by_cases c:s.1=w
    ·have hl:s.1 < hs.length:=(Qa.mp e2).1
     rw [if_pos c,if_pos hl] at z
     exact .inr ⟨s,Qr ..,c,Option.some.inj z,by rw [<- c,e1]; exact e2⟩
    ·rw [if_neg c] at z
     exact .inl z
   ·rw [Xi] at z4
    by_cases c:s.1=w
    ·have hl:s.1 < hs.length:=(Qa.mp e2).1
     rw [if_pos c,if_pos hl] at z4
     exfalso
     have:=(bX p s' z1).1
     rw [z2,<- c,e2] at this
     exact hne s' z1 (Option.some.inj this).symm
    ·rw [if_neg c] at z4
     exact .inr ⟨s',Qq _ z1,z2,z3,z4⟩
theorem rG {n:Int} {ws:List (List Int)} {hs:List Int} {lv:Int->Int} (L:Lv n ws hs lv) {g t:Int} {w:Nat} (e:eJ ws hs g w t):lv g<=lv t:=by
 obtain ⟨e1,l,e2,e3,_⟩:=e
 exact L.2 w g l e1 e2 t e3
theorem rH {ws:List (List Int)} {hs:List Int} {x:Int} {lv:Int->Int}:∀ {ss:List (Nat×Int×Int)} {h:Int},(∀ s∈ss,lv s.2.1<=lv s.2.2)->bH ws hs h ss x->lv h<=lv x/\∀ s∈ss,lv h<=lv s.2.1/\lv s.2.2<=lv x
 | [],h,_,p=>by
  have e:h=x:=p
  rw [e]
  exact ⟨Zx _,fun s hs=>(Qy hs).elim⟩
 | s::ss,h,hl,⟨e1,_,p⟩=>by
  obtain ⟨a,b⟩:=rH (fun s' hs'=>hl s' (Qq _ hs')) p
  have c:=hl s (Qr ..)
  rw [e1] at c
  refine ⟨by omega,fun s' hs'=>?_⟩
  rcases Qs.mp hs' with rfl | hs'
  ·rw [e1]; exact ⟨Zx _,a⟩
  ·have:=b s' hs'; omega
theorem aBN {n:Int} {ws:List (List Int)} {hs able:List Int} {lv:Int->Int} {ss:List (Nat×Int×Int)} {os:List Int} {last:Int} (L:Lv n ws hs lv) (hl:hs.length=ws.length) (hr:∀ g∈hs,0<=g/\g < n) (wr:∀ l∈ws,∀ t∈l,0<=t/\t < n) (ar:∀ t∈able,0<=t/\t < n)
  (hin:∀ (w:Nat) g l,hs[w]?=some g->ws[w]?=some l->g∈l)
  (p:bH (ws++[able]) (hs++[n]) n ss last) (nd:(n::ss.map (·.2.2)).Nodup) (ne:ss≠[]) (C:rC (ws++[able]) (hs++[n]) os) (hn:n∈os) (hm:∀ o∈os,o≠n->0<=o/\o < n/\((hs.count last:Nat):Int)<=(hs.count o:Nat)) (hlo:last∈os) (hln:last≠n) (hss:∀ s∈ss,s.2.2∈os) :
  (∃ lv',Lv n (ws++[able]) (goS (hs++[n]) ss) lv')/\∀ (w:Nat) g l,(goS (hs++[n]) ss)[w]?=some g->(ws++[able])[w]?=some l->g∈l:=by
 obtain ⟨cn,wk⟩:=nT p nd
 have c0:hs.count n=0:=Xz.mpr fun z=>by have:=hr n z; omega
 have c1:∀ y:Int,(((hs++[n]).count y:Nat):Int)=(hs.count y:Nat)+i1 n y:=fun y=>by
  rw [Xu,Jw,Wt]
  unfold i1
  by_cases q:n=y <;> simp [q]
 have cg:∀ y:Int,(((goS (hs++[n]) ss).count y:Nat):Int)=(hs.count y:Nat)+i1 last y:=fun y=>by
  have:=cn y
  have:=c1 y
  omega
 have gn:∀ (w:Nat) g,(goS (hs++[n]) ss)[w]?=some g->g≠n:=fun w g q z=>by
  have h1:=cg n
  have h2:i1 last n=0:=if_neg hln
  have h4:=Qe q
  rw [z] at h4
  have h3:0 < (goS (hs++[n]) ss).count n:=Yg.mpr h4
  omega
 have old:∀ (w:Nat) g,(hs++[n])[w]?=some g->g≠n->hs[w]?=some g:=fun w g q z=>by
  by_cases c:w < hs.length
  ·rwa [Qj c] at q
  ·rw [Qv (by omega)] at q
   by_cases c2:w - hs.length=0
   ·rw [c2] at q
    exact absurd (by simpa using q.symm) z
   ·rw [Zs (by simp; omega)] at q; cases q
 have wold:∀ (w:Nat) l,w < hs.length->(ws++[able])[w]?=some l->ws[w]?=some l:=fun w l c q=>by rwa [Qj (by omega)] at q
 have M:=((hs.count last:Nat):Int)
 -- the levels
 obtain ⟨lv2,hlv2⟩:∃ lv2:Int->Int,∀ h,lv2 h=if h∈os then max (lv h) ((hs.count last:Nat):Int) else lv h:=⟨_,fun _=>rfl⟩
 have ge:∀ h∈os,((hs.count last:Nat):Int)<=lv2 h:=fun h hh=>by rw [hlv2,if_pos hh]; omega
 have up:∀ h,lv h<=lv2 h:=fun h=>by rw [hlv2]; split <;> omega
 have cl2:∀ (w:Nat) g l,hs[w]?=some g->ws[w]?=some l->g∈os->∀ t∈l,t∈os:=fun w g l q1 q2 q3 t ht=>by
  by_cases c:t=g
  ·rw [c]; exact q3
  ·have hw:=(Qa.mp q1).1
   exact C g q3 w t ⟨by rw [Qj hw]; exact q1,l,by rw [Qj (by omega)]; exact q2,ht,c⟩
 have mono:∀ (w:Nat) g l,hs[w]?=some g->ws[w]?=some l->∀ t∈l,lv2 g<=lv2 t:=fun w g l q1 q2 t ht=>by
  have h1:=L.2 w g l q1 q2 t ht
  rw [hlv2,hlv2]
  by_cases c:g∈os
  ·rw [if_pos c,if_pos (cl2 w g l q1 q2 c t ht)]; omega
  ·rw [if_neg c]; split <;> omega
 have lr:0<=last/\last < n:=⟨(hm last hlo hln).1,(hm last hlo hln).2.1⟩
 have l2:lv2 last=((hs.count last:Nat):Int):=by
  have:=(L.1 last lr.1 lr.2).1
  rw [hlv2,if_pos hlo]; omega
 -- every taker lies at the least level
 have tk:∀ s∈ss,lv2 s.2.2=((hs.count last:Nat):Int):=by
  cases ss with
  | nil=>exact absurd rfl ne
  | cons s0 ss =>
   obtain ⟨e1,e2,p2⟩:=p
   have nd2:=Je.mp nd
   have stp:∀ s∈ss,lv2 s.2.1<=lv2 s.2.2:=fun s hs'=>by
    have e:=bX p2 s hs'
    obtain ⟨q1,l,q2,q3,_⟩:=e
    have hgn:s.2.1≠n:=fun z=>by
     rcases eF p2 s hs' with y | ⟨s',y1,y2⟩
     ·exact nd2.1 (by rw [<- z,y]; exact Qr ..)
     ·exact nd2.1 (Qq _ (Js.mpr ⟨s',y1,y2.trans z⟩))
    have q1':=old _ _ q1 hgn
    exact mono _ _ l q1' (wold _ l (Qa.mp q1').1 q2) _ q3
   obtain ⟨a,b⟩:=rH stp p2
   intro s hs'
   have h1:=ge _ (hss s hs')
   rcases Qs.mp hs' with rfl | h2
   ·omega
   ·have:=b s h2; omega
 have moved:∀ s∈ss,∀ l,(ws++[able])[s.1]?=some l->s.2.2∈l/\∀ t∈l,t∈os:=fun s hs' l q=>by
  obtain ⟨q1,l',q2,q3,_⟩:=bX p s hs'
  rw [q] at q2
  cases q2
  refine ⟨q3,fun t ht=>?_⟩
  have hgo:s.2.1∈os:=by
   rcases eF p s hs' with y | ⟨s',y1,y2⟩
   ·rw [y]; exact hn
   ·rw [<- y2]; exact hss s' y1
  by_cases c:t=s.2.1
  ·rw [c]; exact hgo
  ·exact C _ hgo s.1 t ⟨q1,l,q,ht,c⟩
 refine ⟨⟨lv2,fun h h0 h1=>?_,fun w g l q1 q2 t ht=>?_⟩,fun w g l q1 q2=>?_⟩
 ·rw [cg]
  have b:=L.1 h h0 h1
  by_cases c:last=h
  ·rw [<- c,l2]
   have:i1 last last=1:=if_pos rfl
   rw [<- c] at b
   omega
  ·have e:i1 last h=0:=if_neg c
   rw [e,hlv2]
   by_cases c2:h∈os
   ·have:=hm h c2 (by omega)
    rw [if_pos c2]; omega
   ·rw [if_neg c2]; omega
 ·rcases wk w g q1 with z | ⟨s,z1,z2,z3,z4⟩
  ·have z':=old w g z (gn w g q1)
   exact mono w g l z' (wold w l (Qa.mp z').1 q2) t ht
  ·rw [<- z3,tk s z1]
   exact ge t ((moved s z1 l (by rw [z2]; exact q2)).2 t ht)
 ·rcases wk w g q1 with z | ⟨s,z1,z2,z3,z4⟩
  ·have z':=old w g z (gn w g q1)
   exact hin w g l z' (wold w l (Qa.mp z').1 q2)
  ·rw [<- z3]
   exact (moved s z1 l (by rw [z2]; exact q2)).1
theorem pN:∀ {hs:List Int} {k:Nat} {g:Int},hs[k]?=some g->∀ y:Int,(((hs.eraseIdx k).count y:Nat):Int)+i1 g y=(hs.count y:Nat)
 | [],k,g,h,y=>by simp at h
 | x::hs,0,g,h,y=>by
  have e:x=g:=by simpa using h
  subst e
  rw [List.eraseIdx_cons_zero,Jw]
  unfold i1
  by_cases c2:x=y <;> simp [c2]
 | x::hs,k+1,g,h,y=>by
  have ih:=pN (hs:=hs) (k:=k) (g:=g) (by simpa using h) y
  rw [Xm,Jw,Jw]
  omega
theorem eP {α:Type} {l:List α} {k w:Nat} {x:α} (h:(l.eraseIdx k)[w]?=some x):l[if w < k then w else w+1]?=some x:=by
 rw [Xo] at h
 split at h
 ·rename_i c; rw [if_pos c]; exact h
 ·rename_i c; rw [if_neg c]; exact h
theorem tF {n:Int} {ws:List (List Int)} {hs:List Int} {lv:Int->Int} {k:Nat} {g0:Int} (h1:∀ h:Int,0<=h->h < n->lv h<=(hs.count h:Nat) - i1 g0 h/\((hs.count h:Nat):Int) - i1 g0 h<=lv h+1) (h2:∀ (w:Nat) (g:Int) (l:List Int),hs[w]?=some g->ws[w]?=some l->∀ t∈l,lv g<=lv t) (hk:hs[k]?=some g0):Lv n (ws.eraseIdx k) (hs.eraseIdx k) lv:=by
 refine ⟨fun h a b=>?_,fun w g l q1 q2 t ht=>h2 _ g l (eP q1) (eP q2) t ht⟩
 have:=h1 h a b
 have:=pN hk h
 omega
theorem aAN {n:Int} {ws:List (List Int)} {hs:List Int} {lv:Int->Int} {ss:List (Nat×Int×Int)} {k:Nat} {last:Int} (L:Lv n ws hs lv) (hk:hs[k]?=some last) (hr:∀ g∈hs,0<=g/\g < n) (hin:∀ (w:Nat) g l,hs[w]?=some g->ws[w]?=some l->g∈l) (T:lC n ws hs last n ss) :
  (∃ lv',Lv n (ws.eraseIdx k) ((goS hs ss).eraseIdx k) lv')/\(∀ (w:Nat) g l,(goS hs ss)[w]?=some g->ws[w]?=some l->g∈l):=by
 have lr:=hr last (Qe hk)
 rcases T with ⟨e,hno⟩ | ⟨h,hne,p,nd,h0,h1,hc⟩
 ·subst e
  refine ⟨?_,hin⟩
  show ∃ lv',Lv n (ws.eraseIdx k) (hs.eraseIdx k) lv'
  obtain ⟨rch,hrch⟩:∃ rch:Int->Prop,∀ h,rch h↔∃ j,RL ws hs j h last:=⟨_,fun _=>Iff.rfl⟩
  have dc:∀ h,Decidable (rch h):=fun h=>Classical.propDecidable _
  obtain ⟨lv2,hlv2⟩:∃ lv2:Int->Int,∀ h,(rch h->lv2 h=min (lv h) (((hs.count last:Nat):Int) - 1))/\(¬ rch h->lv2 h=lv h):=⟨fun h=>@ite _ (rch h) (dc h) (min (lv h) (((hs.count last:Nat):Int) - 1)) (lv h),fun h=>⟨fun z=>if_pos z,fun z=>if_neg z⟩⟩
  have rl:rch last:=(hrch last).mpr ⟨0,rfl⟩
  have le:∀ h,rch h->lv h<=lv last:=fun h z=>by
   obtain ⟨j,r⟩:=(hrch h).mp z
   exact RL.closed (S:=fun x=>lv h<=lv x) (fun g w t a e=>Int.le_trans a (rG L e)) (Zx _) r
  have few:∀ h,0<=h->h < n->rch h->hs.count h<=hs.count last:=fun h a b z=>by
   by_cases c:hs.count last < hs.count h
   ·obtain ⟨os,o1,o2,o3⟩:=hno h a b c
    obtain ⟨j,r⟩:=(hrch h).mp z
    exact absurd (RL.closed (S:=fun x=>x∈os) (fun g w t a e=>o2 g a w t e) o1 r) o3
   ·omega
  have bl:=L.1 last lr.1 lr.2
  refine ⟨lv2,tF (g0:=last) (fun h a b=>?_) (fun w g l q1 q2 t ht=>?_) hk⟩
  ·have b0:=L.1 h a b
   by_cases c:rch h
   ·have b1:=few h a b c
    have b2:=le h c
    rw [(hlv2 h).1 c]
    by_cases d:last=h
    ·rw [<- d]
     have:i1 last last=1:=if_pos rfl
     omega
    ·have:i1 last h=0:=if_neg d
     omega
   ·rw [(hlv2 h).2 c]
    have:i1 last h=0:=if_neg fun (z:last=h)=>c (z ▸ rl)
    omega
  ·have b0:=L.2 w g l q1 q2 t ht
   by_cases c:rch t
   ·have cg:rch g:=by
     by_cases d:t=g
     ·rw [<- d]; exact c
     ·obtain ⟨j,r⟩:=(hrch t).mp c
      exact (hrch g).mpr ⟨j+1,.inr ⟨w,t,⟨q1,l,q2,ht,d⟩,r⟩⟩
    rw [(hlv2 g).1 cg,(hlv2 t).1 c]; omega
   ·rw [(hlv2 t).2 c]
    by_cases cg:rch g
    ·rw [(hlv2 g).1 cg]; omega
    ·rw [(hlv2 g).2 cg]; exact b0
 ·obtain ⟨cn,wk⟩:=nT p nd
  have pl:=rH (lv:=lv) (fun s hs'=>rG L (bX p s hs')) p
  have b1:=L.1 h h0 h1
  have b2:=L.1 last lr.1 lr.2
  have eh:lv h=lv last:=by omega
  have hk':(goS hs ss)[k]?=some last:=by
   have hl:k < (goS hs ss).length:=by rw [eM]; exact (Qa.mp hk).1
   have q:=Qb hl
   rcases wk k _ q with z | ⟨s,z1,z2,z3,z4⟩
   ·rw [q,<- z,hk]
   ·exfalso
    rw [hk] at z4
    have e:last=s.2.1:=Option.some.inj z4
    -- no giver is the last
    have:∀ {ss:List (Nat×Int×Int)} {h:Int},bH ws hs h ss last->(h::ss.map (·.2.2)).Nodup->∀ s∈ss,s.2.1≠last:=by
     intro ss
     induction ss with
     | nil=>intro h _ _ s hs'; exact (Qy hs').elim
     | cons s0 ss ih =>
      intro h ⟨e1,e2,p2⟩ nd s hs'
      have nd2:=Je.mp nd
      rcases Qs.mp hs' with rfl | hs'
      ·intro z
       have hl:∀ {ss:List (Nat×Int×Int)} {t:Int},bH ws hs t ss last->last∈t::ss.map (·.2.2):=by
        intro ss
        induction ss with
        | nil=>intro t p; rw [show t=last from p]; exact Qr ..
        | cons s1 ss ih=>intro t p; exact Qq _ (ih p.2.2)
       have:=hl p2
       rw [<- z,e1] at this
       exact nd2.1 (by rw [Qu]; exact this)
      ·exact ih p2 (by have:=nd2.2; rwa [Qu] at this) s hs'
    exact this p nd s z1 e.symm
  refine ⟨⟨lv,tF (g0:=last) (fun y a b=>?_) (fun w g l q1 q2 t ht=>?_) hk'⟩,fun w g l q1 q2=>?_⟩
  ·have c1:=cn y
   have c2:=L.1 y a b
   by_cases d:h=y
   ·subst d
    have e1:i1 h h=1:=if_pos rfl
    omega
   ·have e1:i1 h y=0:=if_neg d
    omega
  ·rcases wk w g q1 with z | ⟨s,z1,z2,z3,z4⟩
   ·exact L.2 w g l z q2 t ht
   ·have a1:=L.2 w s.2.1 l z4 q2 t ht
    have a2:=pl.2 s z1
    rw [<- z3]
    have a3:lv s.2.1=lv h:=by
     have:=rG L (bX p s z1)
     omega
    omega
  ·rcases wk w g q1 with z | ⟨s,z1,z2,z3,z4⟩
   ·exact hin w g l z q2
   ·obtain ⟨_,l',q3,q4,_⟩:=bX p s z1
    rw [z2,q2] at q3
    cases q3
    rw [<- z3]; exact q4
section
variable {K:PySem.W.Frag}
theorem xB {H:Hp} {n:Int} {ws:List (List Int)} {a b:Addr} {ys:List V} (h1:SqT K H a [.int n,.ref b]) (h2:SqT K H b ys) (h3:aW K H (ws.map dJ) ys):Den K H (iT n ws) (.ref a) :=
 cO.mpr ⟨a,_,rfl,h1,bO.mpr ⟨_,_,rfl,dE.mpr rfl,bO.mpr ⟨_,_,rfl,cO.mpr ⟨b,ys,rfl,h2,h3⟩,cY.mpr rfl⟩⟩⟩
theorem pO {K:PySem.W.Frag} {H:Hp}:∀ {ds:List PyData} {zs:List V},zs.length=ds.length->(∀ (i:Nat) d z,ds[i]?=some d->zs[i]?=some z->Den K H d z)->aW K H ds zs
 | [],[],_,_=>cY.mpr rfl
 | [],_::_,h,_=>by cases h
 | _::_,[],h,_=>by cases h
 | d::ds,z::zs,hl,h=>bO.mpr ⟨z,zs,rfl,h 0 d z rfl rfl,pO (by simpa using hl) fun i d' z' h1 h2=>h (i+1) d' z' h1 h2⟩
end
theorem jV {b:Bool} {A B:Prop} (e:b=false) (h:B):if b=true then A else B:=by subst e; exact uE h
theorem zN {b:Bool} {A B:Prop} (e:b=true) (h:A):if b=true then A else B:=by subst e; exact oN h
theorem aBe:bootBuiltins "any" = some (.builtin "any"):=by decide +kernel
theorem But.seqTd {K:PySem.W.Frag} {t:Addr} {H H':Hp} {r:List (Key×V)} {a:Addr} {xs:List V} (e:But t H H') (ht:H t=some (.dK r)) (h:SqT K H a xs):SqT K H' a xs:=by
 rcases h with (h | ⟨o,h⟩) | h
 ·exact .inl (.inl (e a _ (fun z=>by rw [z,ht] at h; cases h) h))
 ·exact .inl (.inr ⟨o,e a _ (fun z=>by rw [z,ht] at h; cases h) h⟩)
 ·exact .inr h
structure Mt (K:PySem.W.Frag) (C:Addr) (m:Str) (st:Stmt) (ps:List Str) (f:Addr) (fd:FuncData):Prop where
 fn:Fun K m (("Dealing." : Str)++m) st f fd
 me:Meth K C m f
 bd:gR K fd ps []
structure Dc (K:PySem.W.Frag) (C:Addr):Prop where
 cl:Cls K C
 n1:dQ K C "many_hands"
 n2:dQ K C "able_of"
 n3:dQ K C "hand_of"
 n4:dQ K C "next_number"
 n5:dQ K C "moved_last"
 n6:dQ K C "moved_in_all"
structure DD where
 n:Int
 nx:Int
 ml:Int
 ma:Int
 nums:List Int
 ws:List (List Int)
 hs:List Int
 dx:Addr
 da:Addr
 dh:Addr
 ts:List Addr
def DD.flds (D:DD):List (Str×V):=[("many_hands",.int D.n),("able_of",.ref D.da),("hand_of",.ref D.dh),("next_number",.int D.nx),("moved_last",.int D.ml),("moved_in_all",.int D.ma)]
def kvA (nums:List Int) (ts:List Addr):List (Key×V):=(nums.zip ts).map fun p=>(.inl p.1,.ref p.2)
def kvH (nums hs:List Int):List (Key×V):=(nums.zip hs).map fun p=>(.inl p.1,.int p.2)
structure DlH (K:PySem.W.Frag) (H:Hp) (C x:Addr) (D:DD):Prop where
 ins:H x=some (.ins C D.dx D.flds)
 able:H D.da=some (.dK (kvA D.nums D.ts))
 hand:H D.dh=some (.dK (kvH D.nums D.hs))
 tl:D.ts.length=D.nums.length
 wl:D.ws.length=D.nums.length
 hl:D.hs.length=D.nums.length
 tup:∀ (i:Nat) t l,D.ts[i]?=some t->D.ws[i]?=some l->SqT K H t (l.map V.int)
 ne:D.da≠D.dh
structure DlM (D:DD):Prop where
 bk:nC (iT D.n D.ws)=true
 dl:sV D.ws (pL D.hs)=true
 up:D.nums.Pairwise (· < ·)
 few:∀ k∈D.nums,0<=k/\k < D.nx
 nx:0<=D.nx
 lv:∃ lv,Lv D.n D.ws D.hs lv
theorem DlH.same {K:PySem.W.Frag} {H H':Hp} {C x:Addr} {D:DD} (h:DlH K H C x D) (s:aG H H'):DlH K H' C x D :=
 ⟨s _ _ h.ins,s _ _ h.able,s _ _ h.hand,h.tl,h.wl,h.hl,fun i t l a b=>s.seqT (h.tup i t l a b),h.ne⟩
theorem zO {nums:List Int} {ts:List Addr} (h:ts.length=nums.length):(kvA nums ts).map (·.2)=ts.map V.ref:=by
 unfold kvA
 rw [Zd]
 show (nums.zip ts).map (fun p=>V.ref p.2)=_
 rw [show (fun p:Int×Addr=>V.ref p.2)=V.ref ∘ Prod.snd from rfl,<- Zd,List.map_snd_zip (by omega)]
theorem zP {nums hs:List Int} (h:hs.length=nums.length):(kvH nums hs).map (·.2)=hs.map V.int:=by
 unfold kvH
 rw [Zd]
 show (nums.zip hs).map (fun p=>V.int p.2)=_
 rw [show (fun p:Int×Int=>V.int p.2)=V.int ∘ Prod.snd from rfl,<- Zd,List.map_snd_zip (by omega)]
section
variable {P:Program} {w:World} {K:PySem.W.Frag} {mg:Str->Option Value} {base:Heap} {C:Addr}
def lR (K:PySem.W.Frag) (C:Addr):Sp:=fun vs H Q _=>∃ (x:Addr) (D:DD),vs = [.ref x]/\DlH K H C x D/\∀ p H',aG H H'->Den K H' (iT D.n D.ws) (.ref p)->Q (.ref p) H'
theorem aAO:FnScope ["self"] ["self"] (aI mW):=⟨rfl,rfl,rfl,by decide +kernel,rfl,by decide +kernel,by decide +kernel⟩
theorem zQ {f:Addr} {fd:FuncData} (G:Mt K C "book_now" mW ["self"] f fd) (T:Dc K C) (B:Bl mg):FnOk P w K mg base CX0 1 f fd ["self"] (lR K C):=by
 refine G.fn.ok aAO (fun vs H Q E h=>?_) (fun cdv A outer s H vs Q E hr h=>?_)
 ·obtain ⟨x,D,rfl,_⟩:=h
  rfl
 ·obtain ⟨x,D,rfl,hD,k⟩:=h
  refine ⟨_,aH (aZ (cX (aB (bZ (pv 0) rfl) (aB (bL (gJ rfl) rfl B.tuple iJ (aB (xY PySem.F.plainAttrs_dict PySem.F.slot_dict_values PySem.F.type_dict_values pJ (bZ (pv 0) rfl)) aE)) aE)))),?_⟩
  refine ⟨_,rfl,x,C,D.dx,_,_,rfl,hD.ins,T.cl,T.n1,rfl,_,rfl,x,C,D.dx,_,_,rfl,hD.ins,T.cl,T.n2,rfl,.inr (.inr (.inl ⟨rfl,.inl ⟨_,hD.able⟩⟩)),D.da,_,rfl,rfl,.inl hD.able,fun v hv=>⟨v,D.da,_,rfl,aA,.inl ((aG.new hv) _ _ hD.able),fun t ht=>⟨sz2 _ _,fun p hp=>?_⟩⟩⟩
  rw [zO hD.tl] at hp ⊢
  have s1:=(aG.new (o:=VwO v D.da) hv).trans ((aG.new (o:=.tup (D.ts.map V.ref)) ht).trans (aG.new (o:=.tup [.int D.n,.ref t]) hp))
  refine k p _ s1 (xB (SqT.of aA) ((aG.new hp).seqT (SqT.of aA)) (pO (by rw [Qd,Qd,hD.tl,hD.wl]) fun i d z h1 h2=>?_))
  rw [Qg] at h1 h2
  obtain ⟨l,hl,rfl⟩:=Jr.mp h1
  obtain ⟨t',ht',rfl⟩:=Jr.mp h2
  exact bP.mpr ⟨t',rfl,s1.seqT (hD.tup i t' l ht' hl)⟩
def jW (K:PySem.W.Frag) (C:Addr):Sp:=fun vs H Q _=>∃ (x:Addr) (D:DD),vs = [.ref x]/\DlH K H C x D/\∀ p H',aG H H'->H' p=some (.tup (D.hs.map V.int))->Q (.ref p) H'
theorem aAP:FnScope ["self"] ["self"] (aI hV):=⟨rfl,rfl,rfl,by decide +kernel,rfl,by decide +kernel,by decide +kernel⟩
theorem zR {f:Addr} {fd:FuncData} (G:Mt K C "deal_now" hV ["self"] f fd) (T:Dc K C) (B:Bl mg):FnOk P w K mg base CX0 1 f fd ["self"] (jW K C):=by
 refine G.fn.ok aAP (fun vs H Q E h=>?_) (fun cdv A outer s H vs Q E hr h=>?_)
 ·obtain ⟨x,D,rfl,_⟩:=h
  rfl
 ·obtain ⟨x,D,rfl,hD,k⟩:=h
  refine ⟨_,aH (aZ (bL (gJ rfl) rfl B.tuple iJ (aB (xY PySem.F.plainAttrs_dict PySem.F.slot_dict_values PySem.F.type_dict_values pJ (bZ (pv 0) rfl)) aE))),?_⟩
  refine ⟨_,rfl,x,C,D.dx,_,_,rfl,hD.ins,T.cl,T.n3,rfl,.inr (.inr (.inl ⟨rfl,.inl ⟨_,hD.hand⟩⟩)),D.dh,_,rfl,rfl,.inl hD.hand,fun v hv=>⟨v,D.dh,_,rfl,aA,.inl ((aG.new hv) _ _ hD.hand),fun t ht=>?_⟩⟩
  rw [zP hD.hl]
  exact k t _ ((aG.new hv).trans (aG.new ht)) aA
def DD.moved (D:DD) (m:Int):DD:={ D with ml:=m,ma:=D.ma+m }
def jX (K:PySem.W.Frag) (C:Addr):Sp:=fun vs H Q _=>∃ (x:Addr) (D:DD) (m:Int),vs = [.ref x,.int m]/\H x=some (.ins C D.dx D.flds)/\Q .non (upd H x (.ins C D.dx (D.moved m).flds))
theorem aAQ:FnScope ["self", "many"] ["self", "many"] (aI iA):=⟨rfl,rfl,rfl,by decide +kernel,rfl,by decide +kernel,by decide +kernel⟩
theorem zS {f:Addr} {fd:FuncData} (G:Mt K C "count_moved" iA ["self", "many"] f fd) (T:Dc K C):FnOk P w K mg base CX0 1 f fd ["self", "many"] (jX K C):=by
 refine G.fn.ok aAQ (fun vs H Q E h=>?_) (fun cdv A outer s H vs Q E hr h=>?_)
 ·obtain ⟨x,D,m,rfl,_⟩:=h
  rfl
 ·obtain ⟨x,D,m,rfl,hx,k⟩:=h
  refine ⟨_,aC (jA (pv 0) (pv 1) rfl) (aH (kF (pv 0) (pv 1) tX)),?_⟩
  refine ⟨_,rfl,_,rfl,x,C,D.dx,_,rfl,hx,T.cl,T.n5,(show (6:Nat) < 1000 by decide),?_⟩
  refine ⟨_,rfl,x,C,D.dx,_,_,rfl,aA,T.cl,T.n6,rfl,_,rfl,_,_,rfl,rfl,D.dx,_,aA,(show (6:Nat) < 1000 by decide),?_⟩
  rw [gA]
  exact k
def jY (K:PySem.W.Frag) (C:Addr):Sp:=fun vs H Q _=>∃ (x:Addr) (D:DD),vs = [.ref x]/\DlH K H C x D/\0<=D.n/\D.n<=6/\∀ p H',aG H H'->H' p=some (.tup ((dX D.n D.hs).map V.int))->Q (.ref p) H'
theorem zT:FnScope ["self"] ["self"] (aI jD):=⟨rfl,rfl,rfl,by decide +kernel,rfl,by decide +kernel,by decide +kernel⟩
theorem xC {f fD fC:Addr} {fd dD dC:FuncData} (G:Mt K C "loads" jD ["self"] f fd) (T:Dc K C) (GD:Mt K C "deal_now" hV ["self"] fD dD) (OD:FnOk P w K mg base CX0 1 fD dD ["self"] (jW K C)) (GC:Fn K mg "counted" eS ["hands", "deal"] fC dC) (OC:FnOk P w K mg base CX0 1 fC dC ["hands", "deal"] (iK K)):FnOk P w K mg base CX0 2 f fd ["self"] (jY K C):=by
 refine G.fn.ok zT (fun vs H Q E h=>?_) (fun cdv A outer s H vs Q E hr h=>?_)
 ·obtain ⟨x,D,rfl,_⟩:=h
  rfl
 ·obtain ⟨x,D,rfl,hD,h0,h6,k⟩:=h
  have r1:Room 1 _:=hr
  refine ⟨_,aH (aZ (cA GC OC r1 rfl (aB (bZ (pv 0) rfl) (aB (bK (pv 0) T.cl GD.me OD r1 GD.bd .nil bD) aE)))),?_⟩
  refine ⟨_,rfl,x,C,D.dx,_,_,rfl,hD.ins,T.cl,T.n1,rfl,_,rfl,x,D.dx,_,rfl,hD.ins,rfl,x,D,rfl,hD,fun p H1 s1 hp=>?_⟩
  exact ⟨D.n,p,D.hs,rfl,SqT.of hp,h0,h6,fun q H2 s2 hq=>k q H2 (s1.trans s2) hq⟩
def jZ (K:PySem.W.Frag) (C:Addr):Sp:=fun vs H Q _=>∃ (x:Addr) (D:DD),vs = [.ref x]/\H x=some (.ins C D.dx D.flds)/\∀ p,H p=none->Q (.ref p) (upd H p (.tup [.int D.ml,.int D.ma]))
theorem aAR:FnScope ["self"] ["self"] (aI iB):=⟨rfl,rfl,rfl,by decide +kernel,rfl,by decide +kernel,by decide +kernel⟩
theorem zU {f:Addr} {fd:FuncData} (G:Mt K C "moved" iB ["self"] f fd) (T:Dc K C):FnOk P w K mg base CX0 1 f fd ["self"] (jZ K C):=by
 refine G.fn.ok aAR (fun vs H Q E h=>?_) (fun cdv A outer s H vs Q E hr h=>?_)
 ·obtain ⟨x,D,rfl,_⟩:=h
  rfl
 ·obtain ⟨x,D,rfl,hx,k⟩:=h
  refine ⟨_,aH (aZ (cX (aB (bZ (pv 0) rfl) (aB (bZ (pv 0) rfl) aE)))),?_⟩
  exact ⟨_,rfl,x,C,D.dx,_,_,rfl,hx,T.cl,T.n5,rfl,_,rfl,x,C,D.dx,_,_,rfl,hx,T.cl,T.n6,rfl,sz2 _ _,fun p hp=>k p hp⟩
theorem aBO:bootBuiltins "dict" = some (.type "dict"):=by decide +kernel
def lS (K:PySem.W.Frag) (C:Addr):Sp:=fun vs H Q _=>∃ (x:Addr) (D:DD),vs = [.ref x]/\DlH K H C x D/\∀ p,H p=none->Q (.ref p) (upd H p (.dK (kvH D.nums D.hs)))
theorem aAS:FnScope ["self"] ["self"] (aI mX):=⟨rfl,rfl,rfl,by decide +kernel,rfl,by decide +kernel,by decide +kernel⟩
theorem zV {f:Addr} {fd:FuncData} (G:Mt K C "deal" mX ["self"] f fd) (T:Dc K C) (B:Bl mg):FnOk P w K mg base CX0 1 f fd ["self"] (lS K C):=by
 refine G.fn.ok aAS (fun vs H Q E h=>?_) (fun cdv A outer s H vs Q E hr h=>?_)
 ·obtain ⟨x,D,rfl,_⟩:=h
  rfl
 ·obtain ⟨x,D,rfl,hD,k⟩:=h
  refine ⟨_,aH (aZ (bL qT rfl B.dict aBO (aB (bZ (pv 0) rfl) aE))),?_⟩
  exact ⟨_,rfl,x,C,D.dx,_,_,rfl,hD.ins,T.cl,T.n3,rfl,D.dh,_,rfl,.inl hD.hand,fun p hp=>k p hp⟩
end
section
variable {P:Program} {w:World} {K:PySem.W.Frag} {mg:Str->Option Value} {base:Heap} {C:Addr}
variable {fW fH fK fB fNB fD fND fL:Addr} {dW dH dK dB dNB dD dND dL:FuncData}
def DD.came (D:DD):DD:={ D with n:=D.n+1,ml:=0 }
def rJ (K:PySem.W.Frag) (C:Addr):Sp:=fun vs H Q _=>∃ (x:Addr) (D:DD),vs = [.ref x]/\H x=some (.ins C D.dx D.flds)/\D.n≠6/\Q (.int D.n) (upd H x (.ins C D.dx D.came.flds))
theorem aAT:FnScope ["self"] ["self"] (aI pK):=⟨rfl,rfl,rfl,by decide +kernel,rfl,by decide +kernel,by decide +kernel⟩
theorem zW {f fC:Addr} {fd dC:FuncData} (G:Mt K C "come" pK ["self"] f fd) (T:Dc K C) (B:Bl mg) (GC:Mt K C "count_moved" iA ["self", "many"] fC dC) (OC:FnOk P w K mg base CX0 1 fC dC ["self", "many"] (jX K C)):FnOk P w K mg base CX0 2 f fd ["self"] (rJ K C):=by
 obtain ⟨tmh,hmh⟩:=B.hands
 refine G.fn.ok aAT (fun vs H Q E h=>?_) (fun cdv A outer s H vs Q E hr h=>?_)
 ·obtain ⟨x,D,rfl,_⟩:=h
  rfl
 ·obtain ⟨x,D,rfl,hx,h6,k⟩:=h
  have r1:Room 1 _:=hr
  refine ⟨_,aC (cG (aY oW (bZ (pv 0) rfl) (pZ (v:=.int 6) rfl hmh ⟨tmh,rfl⟩) (bC _)) fO bI)
   (aC (kF (pv 0) aF tX)
   (aC (bT (bN (pv 0) T.cl GC.me OC r1 GC.bd .nil bD (aB aF aE)))
   (aH (aZ (aM cV (bZ (pv 0) rfl) aF))))),?_⟩
  refine ⟨_,rfl,x,C,D.dx,_,_,rfl,hx,T.cl,T.n1,rfl,rfl,_,rfl,jV (decide_eq_false fun z=>h6 (by injection z)) ?_⟩
  refine ⟨_,rfl,x,C,D.dx,_,_,rfl,hx,T.cl,T.n1,rfl,_,_,rfl,rfl,D.dx,_,hx,(show (6:Nat) < 1000 by decide),?_⟩
  refine ⟨_,rfl,x,D.dx,_,rfl,aA,rfl,x,{ D with n:=D.n+1 },0,rfl,aA,?_⟩
  rw [gA]
  refine ⟨_,rfl,x,C,D.dx,_,_,rfl,aA,T.cl,T.n1,rfl,_,_,rfl,rfl,?_⟩
  have e:D.n+1 - 1=D.n:=by omega
  have e2:((({ D with n:=D.n+1 }:DD).moved 0).flds)=D.came.flds:=by
   unfold DD.moved DD.came DD.flds
   simp
  show Q (.int (D.n+1 - 1)) (upd H x (.ins C D.dx ((({ D with n:=D.n+1 }:DD).moved 0).flds)))
  rw [e,e2]
  exact k
end
theorem lT {nums hs:List Int} (h:hs.length=nums.length):(kvH nums hs).length=nums.length:=by unfold kvH; rw [Qd,Xn,h,Zq]
theorem vO {nums:List Int} {ts:List Addr} (h:ts.length=nums.length):(kvA nums ts).length=nums.length:=by unfold kvA; rw [Qd,Xn,h,Zq]
theorem zX {nums:List Int} {ts:List Addr} (h:ts.length=nums.length) (k:Int) (t:Addr):kvA (nums++[k]) (ts++[t])=kvA nums ts++[(.inl k,.ref t)]:=by
 unfold kvA
 rw [Wn h.symm,Jk]; rfl
theorem tG {nums hs:List Int} (h:hs.length=nums.length) (k g:Int):kvH (nums++[k]) (hs++[g])=kvH nums hs++[(.inl k,.int g)]:=by
 unfold kvH
 rw [Wn h.symm,Jk]; rfl
theorem tH {nums:List Int} {ts:List Addr} (h:ts.length=nums.length):((kvA nums ts).map fun kv=>kV kv.1)=nums.map V.int:=by
 unfold kvA
 rw [Zd]
 show (nums.zip ts).map (fun p=>V.int p.1)=_
 rw [show (fun p:Int×Addr=>V.int p.1)=V.int ∘ Prod.fst from rfl,<- Zd,List.map_fst_zip (by omega)]
theorem iN {α:Type} {f:α->V}:∀ {nums:List Int} {xs:List α} {k:Int},k∉nums->bJ ((nums.zip xs).map fun p=>((Sum.inl p.1:Key),f p.2)) (.inl k)=none
 | [],_,_,_=>rfl
 | _::_,[],_,_=>rfl
 | n::nums,x::xs,k,h=>by
  have ne:¬ (Sum.inl n:Key)=Sum.inl k:=fun z=>h (by have:n=k:=(by simpa using z); rw [this]; exact Qr ..)
  show bJ (((Sum.inl n:Key),f x)::_) (.inl k)=none
  rw [bW ne]
  exact iN fun z=>h (Qq _ z)
theorem iO {α:Type} {f:α->V}:∀ {nums:List Int} {xs:List α} {k:Int} {i:Nat} {x:α},nums.Nodup->nums[i]?=some k->xs[i]?=some x->bJ ((nums.zip xs).map fun p=>((Sum.inl p.1:Key),f p.2)) (.inl k)=some (f x)
 | [],_,_,_,_,_,h,_=>by simp at h
 | _::_,[],_,_,_,_,_,h=>by simp at h
 | n::nums,y::xs,k,0,x,_,h1,h2=>by
  have e1:n=k:=by simpa using h1
  have e2:y=x:=by simpa using h2
  subst e1 e2
  show bJ (((Sum.inl n:Key),f y)::_) (.inl n)=_
  rw [bV rfl]
 | n::nums,y::xs,k,i+1,x,nd,h1,h2=>by
  have h1':nums[i]?=some k:=by simpa using h1
  have ne:¬ (Sum.inl n:Key)=Sum.inl k:=fun z=>(Je.mp nd).1 (by have:n=k:=(by simpa using z); rw [this]; exact Qe h1')
  show bJ (((Sum.inl n:Key),f y)::_) (.inl k)=_
  rw [bW ne]
  exact iO (Je.mp nd).2 h1' (by simpa using h2)
theorem pP {l:List Int} (nd:l.Nodup) {i j:Nat} {x:Int} (a:l[i]?=some x) (b:l[j]?=some x):i=j:=by
 obtain ⟨h1,e1⟩:=Qa.mp a
 obtain ⟨h2,e2⟩:=Qa.mp b
 exact (Wf nd).mp (e1.trans e2.symm)
theorem tI:∀ {nums hs:List Int} {k:Nat} {key v:Int},nums.Nodup->hs.length=nums.length->nums[k]?=some key->dF (kvH nums hs) (.inl key) (.int v)=kvH nums (hs.set k v):=by
 intro nums hs k key v nd hl hk
 have hk2:k < hs.length:=by rw [hl]; exact (Qa.mp hk).1
 have hs':(bJ (kvH nums hs) (.inl key)).isSome=true:=by
  have:=iO (f:=V.int) nd hk (Qb hk2)
  unfold kvH
  rw [this]; rfl
 unfold dF
 rw [dG,hs',if_pos rfl]
 unfold kvH
 rw [Zd]
 refine Xv fun j=>?_
 rw [Qg,Qg]
 cases h1:nums[j]? with
 | none =>
  have e1:(nums.zip hs)[j]?=none:=by rw [Qx] at h1 ⊢; rw [Xn]; omega
  have e2:(nums.zip (hs.set k v))[j]?=none:=by rw [Qx] at h1 ⊢; rw [Xn]; omega
  rw [e1,e2]; rfl
 | some m =>
  have hj:j < hs.length:=by rw [hl]; exact (Qa.mp h1).1
  have e1:(nums.zip hs)[j]?=some (m,hs[j]):=Jo.mpr ⟨h1,Qb hj⟩
  rw [e1]
  by_cases c:j=k
  ·subst c
   have em:m=key:=by rw [hk] at h1; exact (Option.some.inj h1).symm
   have e2:(nums.zip (hs.set j v))[j]?=some (m,v):=Jo.mpr ⟨h1,by rw [Xi,if_pos rfl,if_pos hj]⟩
   rw [e2]
   show some (if (Sum.inl m:Key)=Sum.inl key then _ else _)=some _
   rw [if_pos (by rw [em])]
  ·have e2:(nums.zip (hs.set k v))[j]?=some (m,hs[j]):=Jo.mpr ⟨h1,by rw [Xi,if_neg (Ne.symm c)]; exact Qb hj⟩
   rw [e2]
   have nm:¬ (Sum.inl m:Key)=Sum.inl key:=fun z=>by
    have z':m=key:=by simpa using z
    rw [z'] at h1
    exact c (pP nd h1 hk)
   show some (if (Sum.inl m:Key)=Sum.inl key then _ else _)=some _
   rw [if_neg nm]
theorem nU {α:Type} {f:α->V}:∀ {nums:List Int} {xs:List α} {k:Nat} {key:Int},nums.Nodup->xs.length=nums.length->nums[k]?=some key->kX ((nums.zip xs).map fun p=>((Sum.inl p.1:Key),f p.2)) (.inl key)=((nums.eraseIdx k).zip (xs.eraseIdx k)).map fun p=>((Sum.inl p.1:Key),f p.2)
 | [],_,_,_,_,_,h=>by simp at h
 | _::_,[],_,_,_,h,_=>by simp at h
 | n::nums,x::xs,0,key,nd,hl,h=>by
  have e:n=key:=by simpa using h
  subst e
  have hn:=(Je.mp nd).1
  show List.filter _ (_::_)=_
  rw [Yo,if_neg (by simp)]
  refine List.filter_eq_self.mpr fun p hp=>?_
  obtain ⟨q,hq,rfl⟩:=Js.mp hp
  have:=(Yu hq).1
  simp
  intro z
  exact hn (z ▸ this)
 | n::nums,x::xs,k+1,key,nd,hl,h=>by
  have h':nums[k]?=some key:=by simpa using h
  have ih:=nU (f:=f) (Je.mp nd).2 (by simpa using hl:xs.length=nums.length) h'
  have ne:¬ n=key:=fun z=>(Je.mp nd).1 (z ▸ Qe h')
  show List.filter _ (_::_)=_::_
  rw [Yo,if_pos (by simp [ne])]
  congr 1
def aS (x a b:Addr) (H H':Hp):Prop:=∀ c u,c≠x->c≠a->c≠b->H c=some u->H' c=some u
theorem aS.refl (x a b:Addr) (H:Hp):aS x a b H H:=fun _ _ _ _ _ h=>h
theorem aS.trans {x a b:Addr} {H H1 H2:Hp} (p:aS x a b H H1) (q:aS x a b H1 H2):aS x a b H H2:=fun c u h1 h2 h3 h=>q c u h1 h2 h3 (p c u h1 h2 h3 h)
theorem aS.of {x a b:Addr} {H H':Hp} (s:aG H H'):aS x a b H H':=fun c u _ _ _ h=>s c u h
theorem aS.x {x a b:Addr} {H:Hp} {u:HO}:aS x a b H (upd H x u):=fun c v h1 _ _ h=>by rw [aD h1]; exact h
theorem aS.a {x a b:Addr} {H:Hp} {u:HO}:aS x a b H (upd H a u):=fun c v _ h2 _ h=>by rw [aD h2]; exact h
theorem aS.b {x a b:Addr} {H:Hp} {u:HO}:aS x a b H (upd H b u):=fun c v _ _ h3 h=>by rw [aD h3]; exact h
theorem aS.seqT {K:PySem.W.Frag} {x a b t:Addr} {H H':Hp} {xs:List V} {C dx:Addr} {fs:List (Str×V)} {k1 k2:List (Key×V)} (p:aS x a b H H') (hx:H x=some (.ins C dx fs)) (ha:H a=some (.dK k1)) (hb:H b=some (.dK k2)) (h:SqT K H t xs):SqT K H' t xs:=by
 have n:∀ u,H t=some u->(∀ C dx fs,u≠.ins C dx fs)->(∀ k,u≠.dK k)->H' t=some u:=fun u e h1 h2 =>
  p t u (fun z=>by rw [z,hx] at e; exact h1 _ _ _ (Option.some.inj e).symm) (fun z=>by rw [z,ha] at e; exact h2 _ (Option.some.inj e).symm) (fun z=>by rw [z,hb] at e; exact h2 _ (Option.some.inj e).symm) e
 rcases h with (h | ⟨o,h⟩) | h
 ·exact .inl (.inl (n _ h (by intro _ _ _ z; cases z) (by intro _ z; cases z)))
 ·exact .inl (.inr ⟨o,n _ h (by intro _ _ _ z; cases z) (by intro _ z; cases z)⟩)
 ·exact .inr h
theorem tJ (hs:List Int) {ss:List (Nat×Int×Int)} {i:Nat} {s:Nat×Int×Int} (h:ss[i]?=some s):goS hs (ss.take (i+1))=(goS hs (ss.take i)).set s.1 s.2.2:=by
 obtain ⟨h1,h2⟩:=Qa.mp h
 rw [List.take_succ_eq_append_getElem h1,h2]
 unfold goS
 rw [List.foldl_append]; rfl
theorem zY {α:Type} (l:List α) (x y:α):(l++[x]).set l.length y=l++[y]:=by
 rw [List.set_append_right _ _ (Qi _)]; simp
def DD.put (D:DD) (l:List Int) (t:Addr) (hs:List Int) (m:Int):DD:={ D with nx:=D.nx+1,ml:=m,ma:=D.ma+m,nums:=D.nums++[D.nx],ws:=D.ws++[l],hs:=hs,ts:=D.ts++[t] }
structure PutS (D:DD) (l:List Int) (hs:List Int) (m:Int) (ss:List (Nat×Int×Int)) (last:Int):Prop where
 path:bH (D.ws++[l]) (D.hs++[D.n]) D.n ss last
 nd:(D.n::ss.map (·.2.2)).Nodup
 ne:ss≠[]
 hs:hs=goS (D.hs++[D.n]) ss
 m:m=(ss.length:Int) - 1
section
variable {P:Program} {w:World} {K:PySem.W.Frag} {mg:Str->Option Value} {base:Heap} {C:Addr}
def nV (K:PySem.W.Frag) (C Pt:Addr):Sp:=fun vs H Q _=>∃ (x t:Addr) (D:DD) (l:List Int),vs = [.ref x,.ref t]/\DlH K H C x D/\DlM D/\SqT K H t (l.map V.int)/\cM D.n (dJ l)=true/\D.nums.length < 12/\H Pt=some (.tab nR) /\
 ∀ hs m ss last H',aS x D.da D.dh H H'->PutS D l hs m ss last->DlH K H' C x (D.put l t hs m)->DlM (D.put l t hs m)->Q (.int D.nx) H'
theorem nW:FnScope ["self", "able", "steps", "number", "numbers", "work", "giver", "taker"] ["self", "able"] (aI sU):=⟨rfl,rfl,rfl,by decide +kernel,rfl,by decide +kernel,by decide +kernel⟩
set_option maxHeartbeats 1000000 in
theorem aBP {f fWk fBn fDn fLm fSt fCm Pt:Addr} {fd dWk dBn dDn dLm dSt dCm:FuncData} (G:Mt K C "put" sU ["self", "able"] f fd) (T:Dc K C) (B:Bl mg) (GWk:Fn K mg "is_work" mZ ["hands", "thing"] fWk dWk) (OWk:FnOk P w K mg base CX0 2 fWk dWk ["hands", "thing"] (qX K)) (GB:Mt K C "book_now" mW ["self"] fBn dBn) (OB:FnOk P w K mg base CX0 1 fBn dBn ["self"] (lR K C)) (GD:Mt K C "deal_now" hV ["self"] fDn dDn) (OD:FnOk P w K mg base CX0 1 fDn dDn ["self"] (jW K C))
  (GLm:Mt K C "loads" jD ["self"] fLm dLm) (OLm:FnOk P w K mg base CX0 2 fLm dLm ["self"] (jY K C)) (GSt:Fn K mg "steps_to_least" fV ["book", "deal", "able", "measures"] fSt dSt) (OSt:FnOk P w K mg base CX0 2 fSt dSt ["book", "deal", "able", "measures"] (rE K Pt)) (GCm:Mt K C "count_moved" iA ["self", "many"] fCm dCm) (OCm:FnOk P w K mg base CX0 1 fCm dCm ["self", "many"] (jX K C)):FnOk P w K mg base CX0 3 f fd ["self", "able"] (nV K C Pt):=by
 obtain ⟨tmw,hmw⟩:=B.works
 refine G.fn.ok nW (fun vs H Q E h=>?_) (fun cdv A outer s H vs Q E hr h=>?_)
 ·obtain ⟨x,t,D,l,rfl,_⟩:=h
  rfl
 ·obtain ⟨x,t,D,l,rfl,hD,hM,ht,hwk,h12,hT,k⟩:=h
  have r2:Room 2 _:=hr
  have r1:Room 1 _:=hr.mono (by decide)
  refine ⟨_,aC (cG (iZ (gB (cA GWk OWk r2 rfl (aB (bZ (pv 0) rfl) (aB (pv 1) aE))))) fO bI)
   (aC (cG (aY oW (aU wX rfl B.len eL (aB (bZ (pv 0) rfl) aE)) (pZ (v:=.int 12) rfl hmw ⟨tmw,rfl⟩) (bC _)) fO bI)
   (aC (aJ (i:=2) nW.nd rfl (Or.inl rfl) (cA GSt OSt r2 rfl (aB (bK (pv 0) T.cl GB.me OB r1 GB.bd .nil bD) (aB (bK (pv 0) T.cl GD.me OD r1 GD.bd .nil bD) (aB (pv 1) (aB (bK (pv 0) T.cl GLm.me OLm r2 GLm.bd .nil bD) aE))))))
   (aC (aJ (i:=3) nW.nd rfl (Or.inl rfl) (bZ (pv 0) rfl))
   (aC (gE (fP hr) (bZ (pv 0) rfl) (pv 3) (pv 1) rfl)
   (aC (aJ (i:=4) nW.nd rfl (Or.inl rfl) (bL (jO rfl) rfl B.list kK (aB (bZ (pv 0) rfl) aE)))
   (aC (cK PassesOwn.never rfl (eX (pv 2)) (lW rfl (cC (aR (i:=5) nW.nd rfl (Or.inl rfl)) (cC (aR (i:=6) nW.nd rfl (Or.inl rfl)) (cC (aR (i:=7) nW.nd rfl (Or.inl rfl)) jF))))
    (aH (gE (fP hr) (bZ (pv 0) rfl) (aX bE (pv 4) (pv 5) (fun _ _=>rfl)) (pv 7) rfl)))
   (aC (kF (pv 0) aF tX)
   (aC (bT (bN (pv 0) T.cl GCm.me OCm r1 GCm.bd .nil bD (aB (aM cV (aU aV rfl B.len eL (aB (pv 2) aE)) aF) aE)))
   (aH (aZ (pv 3))))))))))),?_⟩
  obtain ⟨hn1,hn6,hw12,hws⟩:=bF hM.bk
  obtain ⟨hdl,hdm⟩:=bM hM.dl
  obtain ⟨l0,l1,l2⟩:=bA hwk
  have hr':∀ g∈D.hs,0<=g/\g < D.n:=fun g hg=>by
   obtain ⟨i,hi⟩:=Qw.mp hg
   have hl:=Qb (show i < D.ws.length by rw [<- hdl]; exact (Qa.mp hi).1)
   exact (bA (hws _ (Qe hl))).2.1 g (hdm i _ _ hi hl)
  have hnd:D.nums.Nodup:=Jy.mpr (hM.up.imp fun h=>Wz h)
  refine ⟨_,rfl,x,C,D.dx,_,_,rfl,hD.ins,T.cl,T.n1,rfl,_,rfl,D.n,.ref t,dJ l,rfl,bP.mpr ⟨t,rfl,ht⟩,_,rfl,jV (by rw [hwk]; rfl) ?_⟩
  refine ⟨_,rfl,x,C,D.dx,_,_,rfl,hD.ins,T.cl,T.n2,rfl,D.da,_,rfl,hD.able,rfl,_,rfl,jV (decide_eq_false fun z=>?_) ?_⟩
  ·injection z with z
   rw [vO hD.tl] at z
   omega
  refine ⟨_,rfl,x,D.dx,_,rfl,hD.ins,rfl,x,D,rfl,hD,fun bp H1 s1 hbp=>?_⟩
  refine ⟨_,rfl,x,D.dx,_,rfl,s1 _ _ hD.ins,rfl,x,D,rfl,hD.same s1,fun dp H2 s2 hdp=>?_⟩
  have s12:=s1.trans s2
  refine ⟨_,rfl,_,rfl,x,D.dx,_,rfl,s12 _ _ hD.ins,rfl,x,D,rfl,hD.same s12,by omega,hn6,fun mp H3 s3 hmp=>?_⟩
  have s13:=s12.trans s3
  refine ⟨.ref bp,dp,t,mp,D.n,D.ws,D.hs,l,dX D.n D.hs,rfl,⟨(s2.trans s3).den _ _ hbp,hM.bk,bP.mpr ⟨dp,rfl,SqT.of (s3 _ _ hdp)⟩,hM.dl⟩,s13.seqT ht,hwk,SqT.of hmp,by unfold dX; rw [Qd,aN],s13 _ _ hT,fun sp H4 ps ss os last s4 nsp esp SS PT ND NE CL hnos hmin hlo hln hss=>?_⟩
  dsimp only [aT]
  have s14:=s13.trans s4
  have hD4:=hD.same s14
  have sz:∀ n:Nat,n < 1000->n < sizeLine:=fun n h=>Wm h (by decide +kernel)
  have nax:D.da≠x:=fun z=>by have:=hD4.able; rw [z,hD4.ins] at this; cases this
  have nhx:D.dh≠x:=fun z=>by have:=hD4.hand; rw [z,hD4.ins] at this; cases this
  refine ⟨_,rfl,x,C,D.dx,_,_,rfl,hD4.ins,T.cl,T.n4,rfl,?_⟩
  dsimp only [aT]
  refine ⟨_,rfl,_,rfl,x,C,D.dx,_,_,rfl,hD4.ins,T.cl,T.n2,rfl,_,rfl,D.da,_,rfl,lF.k (k:=.inl D.nx) hD4.able (sz _ (by rw [vO hD.tl]; omega)),?_⟩
  have hnew:D.nx∉D.nums:=fun z=>by have:=hM.few _ z; omega
  have e5:dF (kvA D.nums D.ts) (.inl D.nx) (.ref t)=kvA (D.nums++[D.nx]) (D.ts++[t]):=by
   rw [zX hD.tl]
   exact jM _ (iN hnew)
  rw [e5]
  have x5:upd H4 D.da (.dK (kvA (D.nums++[D.nx]) (D.ts++[t]))) x=some (.ins C D.dx D.flds):=by rw [aD nax.symm]; exact hD4.ins
  have a5:upd H4 D.da (.dK (kvA (D.nums++[D.nx]) (D.ts++[t]))) D.da=some (.dK (kvA (D.nums++[D.nx]) (D.ts++[t]))):=aA
  have h5:upd H4 D.da (.dK (kvA (D.nums++[D.nx]) (D.ts++[t]))) D.dh=some (.dK (kvH D.nums D.hs)):=by rw [aD hD.ne.symm]; exact hD4.hand
  have nspa:sp≠D.da:=fun z=>by rw [z,hD4.able] at esp; cases esp
  have sp5:upd H4 D.da (.dK (kvA (D.nums++[D.nx]) (D.ts++[t]))) sp=some (.lst (ps.map V.ref)):=by rw [aD nspa]; exact esp
  have SS5:StepsAt (upd H4 D.da (.dK (kvA (D.nums++[D.nx]) (D.ts++[t])))) ps ss:=⟨SS.len,fun i p s' a b=>by
   have:=SS.at_ i p s' a b
   rw [aD (fun z=>by rw [z,hD4.able] at this; cases this)]; exact this⟩
  have b5:aS x D.da D.dh H (upd H4 D.da (.dK (kvA (D.nums++[D.nx]) (D.ts++[t])))):=(aS.of s14).trans aS.a
  generalize upd H4 D.da (.dK (kvA (D.nums++[D.nx]) (D.ts++[t])))=H5 at x5 a5 h5 sp5 SS5 b5 ⊢
  refine ⟨_,rfl,x,C,D.dx,_,_,rfl,x5,T.cl,T.n2,rfl,D.da,_,rfl,.inl a5,fun np hnp=>?_⟩
  dsimp only [aT]
  rw [tH (by rw [Qh,Qh,hD.tl]; rfl)]
  have s6:=aG.new (o:=.lst ((D.nums++[D.nx]).map V.int)) hnp
  have np6:upd H5 np (.lst ((D.nums++[D.nx]).map V.int)) np=some (.lst ((D.nums++[D.nx]).map V.int)):=aA
  have x6:=s6 _ _ x5
  have a6:=s6 _ _ a5
  have h6:=s6 _ _ h5
  have sp6:=s6 _ _ sp5
  have SS6:StepsAt (upd H5 np (.lst ((D.nums++[D.nx]).map V.int))) ps ss:=⟨SS5.len,fun i p s' a b=>s6 _ _ (SS5.at_ i p s' a b)⟩
  have b6:=b5.trans (aS.of (x:=x) (a:=D.da) (b:=D.dh) s6)
  generalize upd H5 np (.lst ((D.nums++[D.nx]).map V.int))=H6 at s6 np6 x6 a6 h6 sp6 SS6 b6 ⊢
  have nnh:np≠D.dh:=fun z=>by rw [z,h6] at np6; cases np6
  have nsh:sp≠D.dh:=fun z=>by rw [z,h6] at sp6; cases sp6
  have hcl:(D.hs++[D.n]).length=(D.nums++[D.nx]).length:=by rw [Qh,Qh,hD.hl]; rfl
  have hnd':(D.nums++[D.nx]).Nodup:=Xj.mpr ⟨hnd,by simp,fun a ha b hb=>by
   have e:b=D.nx:=by simpa using hb
   rw [e]; exact fun z=>hnew (z ▸ ha)⟩
  refine ⟨_,rfl,sp,rfl,⟨_,SqL.of sp6⟩,eQ (K:=K) (a:=sp) (xs:=ps.map V.ref) (fun i σ H'=>∃ v5 v6 v7,σ = [some (.ref x),some (.ref t),some (.ref sp),some (.int D.nx),some (.ref np),v5,v6,v7]/\But D.dh H6 H'/\H' D.dh=some (.dK (if i=0 then kvH D.nums D.hs else kvH (D.nums++[D.nx]) (goS (D.hs++[D.n]) (ss.take i))))) ⟨none,none,none,rfl,But.refl _ _,h6⟩ (fun i σ H' _ ⟨_,_,_,_,b,_⟩=>SqL.of (b _ _ nsh sp6)) ?_ ?_⟩
  ·rintro i y σ H' hy ⟨v5,v6,v7,rfl,b7,h7⟩
   rw [Qg] at hy
   obtain ⟨p,hp,rfl⟩:=Jr.mp hy
   have hi:i < ss.length:=by rw [<- SS.len]; exact (Qa.mp hp).1
   obtain ⟨s',hs'⟩:∃ s',ss[i]?=some s':=⟨_,Qb hi⟩
   have hpt:=SS6.at_ i p s' hp hs'
   have hpt7:=b7 _ _ (fun z=>by rw [z,h6] at hpt; cases hpt) hpt
   have x7:=b7 _ _ nhx.symm x6
   have np7:=b7 _ _ nnh np6
   have ed:=bX PT s' (Qe hs')
   have hkey:s'.1 < (D.nums++[D.nx]).length:=by rw [<- hcl]; exact (Qa.mp ed.1).1
   obtain ⟨key,hkey'⟩:∃ key,(D.nums++[D.nx])[s'.1]?=some key:=⟨_,Qb hkey⟩
   refine ⟨p,_,rfl,SqT.of hpt7,rfl,_,_,rfl,_,_,rfl,_,_,rfl,rfl,?_⟩
   dsimp only [aT]
   refine ⟨_,rfl,_,rfl,x,C,D.dx,_,_,rfl,x7,T.cl,T.n3,rfl,_,rfl,_,rfl,np,_,(s'.1:Int),.int key,rfl,rfl,SqL.of np7,?_,D.dh,_,rfl,lF.k (k:=.inl key) h7 ?_,?_⟩
   ·show atI _ _=_
    exact cH (by rw [Qg,hkey']; rfl)
   ·refine sz _ ?_
    by_cases c:i=0
    ·rw [if_pos c,lT hD.hl]; omega
    ·rw [if_neg c,lT (by rw [eM]; exact hcl),Qh]
     show D.nums.length+1 < 1000
     omega
   ·refine ⟨_,_,_,rfl,b7.trans But.at,?_⟩
    rw [aA,if_neg (Nat.succ_ne_zero i),tJ _ hs']
    by_cases c:i=0
    ·subst c
     rw [if_pos rfl]
     have eg:s'.2.1=D.n:=by
      cases ss with
      | nil=>simp at hs'
      | cons s0 ss =>
       have e:s0=s':=by simpa using hs'
       rw [<- e]; exact PT.1
     have ew:s'.1=D.hs.length:=by
      by_cases d:s'.1 < D.hs.length
      ·have:=ed.1
       rw [Qj d] at this
       have:=hr' _ (Qe this)
       omega
      ·rw [Qh] at hkey
       have:s'.1 < D.nums.length+1:=hkey
       have:=hD.hl
       omega
     have ek:key=D.nx:=by
      rw [ew,hD.hl,Qv (Qi _),Xk] at hkey'
      simpa using hkey'.symm
     rw [ek,Ws]
     show some (HO.dK (dF (kvH D.nums D.hs) (.inl D.nx) (.int s'.2.2)))=some (.dK (kvH (D.nums++[D.nx]) ((D.hs++[D.n]).set s'.1 s'.2.2)))
     rw [ew,zY,tG hD.hl]
     exact congrArg (fun z=>some (HO.dK z)) (jM _ (iN hnew))
    ·rw [if_neg c]
     exact congrArg (fun z=>some (HO.dK z)) (tI hnd' (by rw [eM]; exact hcl) hkey')
  ·rintro σ H7 ⟨v5,v6,v7,rfl,b7,h7⟩
   have sl:(ps.map V.ref).length=ss.length:=by rw [Qd,SS.len]
   rw [sl,if_neg (by intro z; exact NE (Zg.mp z)),Xy] at h7
   have x7:=b7 _ _ nhx.symm x6
   have a7:=b7 _ _ hD.ne a6
   have sp7:=b7 _ _ nsh sp6
   have b07:aS x D.da D.dh H H7:=b6.trans fun c u _ _ h3 hu=>b7 _ _ h3 hu
   refine ⟨_,rfl,x,C,D.dx,_,_,rfl,x7,T.cl,T.n4,rfl,_,_,rfl,rfl,D.dx,_,x7,(show (6:Nat) < 1000 by decide),?_⟩
   refine ⟨_,rfl,x,D.dx,_,rfl,aA,rfl,_,rfl,sp,_,rfl,.inl (SqL.of (by rw [aD (fun z=>by rw [z,x7] at sp7; cases sp7)]; exact sp7)),_,_,rfl,rfl,x,{ D with nx:=D.nx+1 },(ss.length:Int) - 1,?_,aA,?_⟩
   ·rw [sl]; rfl
   rw [gA]
   refine ⟨_,rfl,?_⟩
   have b08:aS x D.da D.dh H (upd H7 x (.ins C D.dx (D.put l t (goS (D.hs++[D.n]) ss) ((ss.length:Int) - 1)).flds)):=b07.trans aS.x
   have lr:=hmin last hlo hln
   have ld:∀ o:Int,0<=o->o < D.n->(dX D.n D.hs).getD o.toNat 0=((D.hs.count o:Nat):Int):=fun o h1 h2=>by
    rw [Jt,nN (by omega),show ((o.toNat:Nat):Int)=o by omega]; rfl
   obtain ⟨lv,L⟩:=hM.lv
   obtain ⟨⟨lv',L'⟩,ins'⟩:=aBN L hdl hr' (fun l' hl'=>(bA (hws l' hl')).2.1) l1 hdm PT ND NE CL hnos (fun o ho hno=>by
    have q:=hmin o ho hno
    rw [ld _ lr.1 lr.2.1,ld _ q.1 q.2.1] at q
    exact q) hlo hln hss
   have hgl:(goS (D.hs++[D.n]) ss).length=D.nums.length+1:=by rw [eM,hcl,Qh]; rfl
   refine k (goS (D.hs++[D.n]) ss) ((ss.length:Int) - 1) ss last _ b08 ⟨PT,ND,NE,rfl,rfl⟩ ⟨aA,(aD nax).trans a7,(aD nhx).trans h7,?_,?_,?_,fun i t' l' q1 q2=>?_,hD.ne⟩ ⟨?_,?_,?_,?_,?_,lv',L'⟩
   ·show (D.ts++[t]).length=(D.nums++[D.nx]).length
    rw [Qh,Qh,hD.tl]; rfl
   ·show (D.ws++[l]).length=(D.nums++[D.nx]).length
    rw [Qh,Qh,hD.wl]; rfl
   ·show (goS (D.hs++[D.n]) ss).length=(D.nums++[D.nx]).length
    rw [hgl,Qh]; rfl
   ·refine b08.seqT hD.ins hD.able hD.hand ?_
    have q1':(D.ts++[t])[i]?=some t':=q1
    have q2':(D.ws++[l])[i]?=some l':=q2
    by_cases c:i < D.ts.length
    ·rw [Qj c] at q1'
     rw [Qj (by rw [hD.wl,<- hD.tl]; exact c)] at q2'
     exact hD.tup i t' l' q1' q2'
    ·have ci:i=D.ts.length:=by
      have:=(Qa.mp q1').1
      rw [Qh] at this
      have:i < D.ts.length+1:=this
      omega
     have cw:D.ts.length=D.ws.length:=by rw [hD.tl,hD.wl]
     rw [ci,Qv (Qi _),Xk] at q1'
     rw [ci,cw,Qv (Qi _),Xk] at q2'
     have e1:t=t':=by simpa using q1'
     have e2:l=l':=by simpa using q2'
     rw [<- e1,<- e2]; exact ht
   ·refine lN hn1 hn6 ?_ fun l' hl'=>?_
    ·show (D.ws++[l]).length<=12
     rw [Qh,hD.wl]
     show D.nums.length+1<=12
     omega
    ·have hl2:l'∈D.ws++[l]:=hl'
     rcases Jq.mp hl2 with z | z
     ·exact hws l' z
     ·rw [show l'=l by simpa using z]; exact hwk
   ·refine rA ?_ ins'
    show (goS (D.hs++[D.n]) ss).length=(D.ws++[l]).length
    rw [hgl,Qh,hD.wl]; rfl
   ·show (D.nums++[D.nx]).Pairwise (· < ·)
    refine List.pairwise_append.mpr ⟨hM.up,List.pairwise_singleton _ _,fun a ha b hb=>?_⟩
    rw [show b=D.nx by simpa using hb]
    exact (hM.few a ha).2
   ·intro k' hk'
    have hk2:k'∈D.nums++[D.nx]:=hk'
    show 0<=k'/\k' < D.nx+1
    have n0:=hM.nx
    rcases Jq.mp hk2 with z | z
    ·have:=hM.few k' z
     omega
    ·rw [show k'=D.nx by simpa using z]; omega
   ·have:=hM.nx
    show 0<=D.nx+1
    omega
def DD.take (D:DD) (k:Nat) (ss:List (Nat×Int×Int)):DD:={ D with ml:=(ss.length:Int),ma:=D.ma+(ss.length:Int),nums:=D.nums.eraseIdx k,ws:=D.ws.eraseIdx k,hs:=(goS D.hs ss).eraseIdx k,ts:=D.ts.eraseIdx k }
def kQ (K:PySem.W.Frag) (C:Addr):Sp:=fun vs H Q _=>∃ (x:Addr) (D:DD) (num:Int) (k:Nat) (last:Int),vs = [.ref x,.int num]/\DlH K H C x D/\DlM D/\D.nums[k]?=some num/\D.hs[k]?=some last /\
 ∀ ss H',aS x D.da D.dh H H'->lC D.n D.ws D.hs last D.n ss->DlH K H' C x (D.take k ss)->DlM (D.take k ss)->Q .non H'
theorem kR:FnScope ["self", "number", "numbers", "steps", "work", "giver", "taker"] ["self", "number"] (aI lA):=⟨rfl,rfl,rfl,by decide +kernel,rfl,by decide +kernel,by decide +kernel⟩
set_option maxHeartbeats 1000000 in
theorem aAU {f fWh fBn fDn fTk fCm:Addr} {fd dWh dBn dDn dTk dCm:FuncData} (G:Mt K C "take" lA ["self", "number"] f fd) (T:Dc K C) (B:Bl mg) (GWh:Fn K mg "is_whole" jC ["thing"] fWh dWh) (OWh:FnOk P w K mg base CX0 1 fWh dWh ["thing"] (jS K)) (GB:Mt K C "book_now" mW ["self"] fBn dBn) (OB:FnOk P w K mg base CX0 1 fBn dBn ["self"] (lR K C)) (GD:Mt K C "deal_now" hV ["self"] fDn dDn) (OD:FnOk P w K mg base CX0 1 fDn dDn ["self"] (jW K C))
  (GTk:Fn K mg "steps_of_take" jR ["book", "deal", "work"] fTk dTk) (OTk:FnOk P w K mg base CX0 2 fTk dTk ["book", "deal", "work"] (rF K)) (GCm:Mt K C "count_moved" iA ["self", "many"] fCm dCm) (OCm:FnOk P w K mg base CX0 1 fCm dCm ["self", "many"] (jX K C)):FnOk P w K mg base CX0 3 f fd ["self", "number"] (kQ K C):=by
 refine G.fn.ok kR (fun vs H Q E h=>?_) (fun cdv A outer s H vs Q E hr h=>?_)
 ·obtain ⟨x,D,num,k,last,rfl,_⟩:=h
  rfl
 ·obtain ⟨x,D,num,kk,last,rfl,hD,hM,hnum,hlast,k⟩:=h
  have r2:Room 2 _:=hr
  have r1:Room 1 _:=hr.mono (by decide)
  refine ⟨_,aC (cG (PW.pt (gI (iZ (gB (cA GWh OWh r1 rfl (aB (pv 1) aE)))) (fG (qB (pI (fP hr) (pv 1) (bZ (pv 0) rfl)) (by with_unfolding_all rfl))))) fO bI)
   (aC (aJ (i:=2) kR.nd rfl (Or.inl rfl) (bL (jO rfl) rfl B.list kK (aB (bZ (pv 0) rfl) aE)))
   (aC (aJ (i:=3) kR.nd rfl (Or.inl rfl) (cA GTk OTk r2 rfl (aB (bK (pv 0) T.cl GB.me OB r1 GB.bd .nil bD) (aB (bK (pv 0) T.cl GD.me OD r1 GD.bd .nil bD) (aB (sA PySem.F.plainAttrs_list PySem.F.slot_list_index PySem.F.type_list_index wO (pv 2) (aB (pv 1) aE)) aE)))))
   (aC (cK PassesOwn.never rfl (eX (pv 3)) (lW rfl (cC (aR (i:=4) kR.nd rfl (Or.inl rfl)) (cC (aR (i:=5) kR.nd rfl (Or.inl rfl)) (cC (aR (i:=6) kR.nd rfl (Or.inl rfl)) jF))))
    (aH (gE (fP hr) (bZ (pv 0) rfl) (aX bE (pv 2) (pv 4) (fun _ _=>rfl)) (pv 6) rfl)))
   (aC (bT (sS (bZ (pv 0) rfl) (pv 1) ⟨rfl,rfl,rfl,rfl⟩))
   (aC (bT (sS (bZ (pv 0) rfl) (pv 1) ⟨rfl,rfl,rfl,rfl⟩))
   (aH (bT (bN (pv 0) T.cl GCm.me OCm r1 GCm.bd .nil bD (aB (aU aV rfl B.len eL (aB (pv 3) aE)) aE))))))))),?_⟩
  obtain ⟨hn1,hn6,hw12,hws⟩:=bF hM.bk
  obtain ⟨hdl,hdm⟩:=bM hM.dl
  have hr':∀ g∈D.hs,0<=g/\g < D.n:=fun g hg=>by
   obtain ⟨i,hi⟩:=Qw.mp hg
   have hl:=Qb (show i < D.ws.length by rw [<- hdl]; exact (Qa.mp hi).1)
   exact (bA (hws _ (Qe hl))).2.1 g (hdm i _ _ hi hl)
  have hnd:D.nums.Nodup:=Jy.mpr (hM.up.imp fun h=>Wz h)
  have sz:∀ n:Nat,n < 1000->n < sizeLine:=fun n h=>Wm h (by decide +kernel)
  have n12:D.nums.length<=12:=by rw [<- hD.wl]; exact hw12
  obtain ⟨t0,ht0⟩:∃ t0,D.ts[kk]?=some t0:=⟨_,Qb (by rw [hD.tl]; exact (Qa.mp hnum).1)⟩
  have va:bJ (kvA D.nums D.ts) (.inl num)=some (.ref t0):=iO hnd hnum ht0
  refine ⟨_,rfl,.int num,.int num,rfl,dE.mpr rfl,_,rfl,jV rfl ?_⟩
  refine ⟨_,rfl,_,rfl,x,C,D.dx,_,_,rfl,hD.ins,T.cl,T.n2,rfl,D.da,_,rfl,gN.k (k:=.inl num) hD.able,_,rfl,jV (by rw [va]; rfl) ?_⟩
  refine ⟨_,rfl,x,C,D.dx,_,_,rfl,hD.ins,T.cl,T.n2,rfl,D.da,_,rfl,.inl hD.able,fun np hnp=>?_⟩
  dsimp only [aT]
  rw [tH hD.tl]
  have s1:=aG.new (o:=.lst (D.nums.map V.int)) hnp
  have np1:upd H np (.lst (D.nums.map V.int)) np=some (.lst (D.nums.map V.int)):=aA
  generalize upd H np (.lst (D.nums.map V.int))=H1 at s1 np1 ⊢
  have hD1:=hD.same s1
  refine ⟨_,rfl,x,D.dx,_,rfl,hD1.ins,rfl,x,D,rfl,hD1,fun bp H2 s2 hbp=>?_⟩
  have hD2:=hD1.same s2
  refine ⟨_,rfl,x,D.dx,_,rfl,hD2.ins,rfl,x,D,rfl,hD2,fun dp H3 s3 hdp=>?_⟩
  have s23:=s2.trans s3
  have np3:=s23 _ _ np1
  refine ⟨_,rfl,.inl ⟨rfl,_,SqL.of np3⟩,_,rfl,np,D.nums,num,kk,rfl,rfl,SqL.of np3,hnum,fun m hm hm2=>Jd hm (pP hnd hm2 hnum),?_⟩
  refine ⟨.ref bp,.ref dp,D.n,D.ws,D.hs,kk,last,rfl,⟨s3.den _ _ hbp,hM.bk,bP.mpr ⟨dp,rfl,SqT.of hdp⟩,hM.dl⟩,hlast,fun sp H4 ps ss s4 nsp esp SS TK=>?_⟩
  dsimp only [aT]
  have s14:=s1.trans (s23.trans s4)
  have hD4:=hD.same s14
  have np4:=s4 _ _ np3
  have nax:D.da≠x:=fun z=>by have:=hD4.able; rw [z,hD4.ins] at this; cases this
  have nhx:D.dh≠x:=fun z=>by have:=hD4.hand; rw [z,hD4.ins] at this; cases this
  have nsa:sp≠D.da:=fun z=>by rw [z,hD4.able] at esp; cases esp
  have nsh:sp≠D.dh:=fun z=>by rw [z,hD4.hand] at esp; cases esp
  have nsx:sp≠x:=fun z=>by rw [z,hD4.ins] at esp; cases esp
  have nnh:np≠D.dh:=fun z=>by rw [z,hD4.hand] at np4; cases np4
  have key:∀ (i:Nat) (s':Nat×Int×Int),ss[i]?=some s'->s'.1 < D.hs.length:=fun i s' h=>by
   rcases TK with ⟨e,_⟩ | ⟨h0,_,p,_⟩
   ·subst e; simp at h
   ·exact (Qa.mp (bX p s' (Qe h)).1).1
  refine ⟨_,rfl,sp,rfl,⟨_,SqL.of esp⟩,eQ (K:=K) (a:=sp) (xs:=ps.map V.ref) (fun i σ H'=>∃ v5 v6 v7,σ = [some (.ref x),some (.int num),some (.ref np),some (.ref sp),v5,v6,v7]/\But D.dh H4 H'/\H' D.dh=some (.dK (kvH D.nums (goS D.hs (ss.take i))))) ⟨none,none,none,rfl,But.refl _ _,hD4.hand⟩ (fun i σ H' _ ⟨_,_,_,_,b,_⟩=>SqL.of (b _ _ nsh esp)) ?_ ?_⟩
  ·rintro i y σ H' hy ⟨v5,v6,v7,rfl,b7,h7⟩
   rw [Qg] at hy
   obtain ⟨p,hp,rfl⟩:=Jr.mp hy
   have hi:i < ss.length:=by rw [<- SS.len]; exact (Qa.mp hp).1
   obtain ⟨s',hs'⟩:∃ s',ss[i]?=some s':=⟨_,Qb hi⟩
   have hpt:=SS.at_ i p s' hp hs'
   have hpt7:=b7 _ _ (fun z=>by rw [z,hD4.hand] at hpt; cases hpt) hpt
   have x7:=b7 _ _ nhx.symm hD4.ins
   have np7:=b7 _ _ nnh np4
   have hkey:=key i s' hs'
   rw [hD.hl] at hkey
   obtain ⟨key',hkey'⟩:∃ key',D.nums[s'.1]?=some key':=⟨_,Qb hkey⟩
   refine ⟨p,_,rfl,SqT.of hpt7,rfl,_,_,rfl,_,_,rfl,_,_,rfl,rfl,?_⟩
   dsimp only [aT]
   refine ⟨_,rfl,_,rfl,x,C,D.dx,_,_,rfl,x7,T.cl,T.n3,rfl,_,rfl,_,rfl,np,_,(s'.1:Int),.int key',rfl,rfl,SqL.of np7,?_,D.dh,_,rfl,lF.k (k:=.inl key') h7 ?_,?_⟩
   ·show atI _ _=_
    exact cH (by rw [Qg,hkey']; rfl)
   ·refine sz _ ?_
    rw [lT (by rw [eM]; exact hD.hl)]; omega
   ·refine ⟨_,_,_,rfl,b7.trans But.at,?_⟩
    rw [aA,tJ _ hs']
    exact congrArg (fun z=>some (HO.dK z)) (tI hnd (by rw [eM]; exact hD.hl) hkey')
  ·rintro σ H7 ⟨v5,v6,v7,rfl,b7,h7⟩
   have sl:(ps.map V.ref).length=ss.length:=by rw [Qd,SS.len]
   rw [sl,Xy] at h7
   have x7:=b7 _ _ nhx.symm hD4.ins
   have a7:=b7 _ _ hD.ne hD4.able
   have sp7:=b7 _ _ nsh esp
   have b07:aS x D.da D.dh H H7:=(aS.of s14).trans fun c u _ _ h3 hu=>b7 _ _ h3 hu
   have hgl:(goS D.hs ss).length=D.nums.length:=by rw [eM]; exact hD.hl
   obtain ⟨g0,hg0⟩:∃ g0,(goS D.hs ss)[kk]?=some g0:=⟨_,Qb (by rw [hgl]; exact (Qa.mp hnum).1)⟩
   have vh:bJ (kvH D.nums (goS D.hs ss)) (.inl num)=some (.int g0):=iO hnd hnum hg0
   have da:kX (kvA D.nums D.ts) (.inl num)=kvA (D.nums.eraseIdx kk) (D.ts.eraseIdx kk):=nU hnd hD.tl hnum
   have dh:kX (kvH D.nums (goS D.hs ss)) (.inl num)=kvH (D.nums.eraseIdx kk) ((goS D.hs ss).eraseIdx kk):=nU hnd hgl hnum
   refine ⟨_,rfl,x,C,D.dx,_,_,rfl,x7,T.cl,T.n2,rfl,D.da,rfl,.inl ⟨_,.inl a7⟩,_,rfl,_,.inl num,_,a7,rfl,va,?_⟩
   rw [da]
   have x8:upd H7 D.da (.dK (kvA (D.nums.eraseIdx kk) (D.ts.eraseIdx kk))) x=some (.ins C D.dx D.flds):=(aD nax.symm).trans x7
   have h8:upd H7 D.da (.dK (kvA (D.nums.eraseIdx kk) (D.ts.eraseIdx kk))) D.dh=some (.dK (kvH D.nums (goS D.hs ss))):=(aD hD.ne.symm).trans h7
   have a8:upd H7 D.da (.dK (kvA (D.nums.eraseIdx kk) (D.ts.eraseIdx kk))) D.da=some (.dK (kvA (D.nums.eraseIdx kk) (D.ts.eraseIdx kk))):=aA
   have sp8:upd H7 D.da (.dK (kvA (D.nums.eraseIdx kk) (D.ts.eraseIdx kk))) sp=some (.lst (ps.map V.ref)):=(aD nsa).trans sp7
   have b08:aS x D.da D.dh H (upd H7 D.da (.dK (kvA (D.nums.eraseIdx kk) (D.ts.eraseIdx kk)))):=b07.trans aS.a
   generalize upd H7 D.da (.dK (kvA (D.nums.eraseIdx kk) (D.ts.eraseIdx kk)))=H8 at x8 h8 a8 sp8 b08 ⊢
   refine ⟨_,rfl,x,C,D.dx,_,_,rfl,x8,T.cl,T.n3,rfl,D.dh,rfl,.inl ⟨_,.inl h8⟩,_,rfl,_,.inl num,_,h8,rfl,vh,?_⟩
   rw [dh]
   have x9:upd H8 D.dh (.dK (kvH (D.nums.eraseIdx kk) ((goS D.hs ss).eraseIdx kk))) x=some (.ins C D.dx D.flds):=(aD nhx.symm).trans x8
   have a9:upd H8 D.dh (.dK (kvH (D.nums.eraseIdx kk) ((goS D.hs ss).eraseIdx kk))) D.da=some (.dK (kvA (D.nums.eraseIdx kk) (D.ts.eraseIdx kk))):=(aD hD.ne).trans a8
   have h9:upd H8 D.dh (.dK (kvH (D.nums.eraseIdx kk) ((goS D.hs ss).eraseIdx kk))) D.dh=some (.dK (kvH (D.nums.eraseIdx kk) ((goS D.hs ss).eraseIdx kk))):=aA
   have sp9:upd H8 D.dh (.dK (kvH (D.nums.eraseIdx kk) ((goS D.hs ss).eraseIdx kk))) sp=some (.lst (ps.map V.ref)):=(aD nsh).trans sp8
   have b09:aS x D.da D.dh H (upd H8 D.dh (.dK (kvH (D.nums.eraseIdx kk) ((goS D.hs ss).eraseIdx kk)))):=b08.trans aS.b
   generalize upd H8 D.dh (.dK (kvH (D.nums.eraseIdx kk) ((goS D.hs ss).eraseIdx kk)))=H9 at x9 h9 a9 sp9 b09 ⊢
   refine ⟨_,rfl,x,D.dx,_,rfl,x9,rfl,_,rfl,sp,_,rfl,.inl (SqL.of sp9),x,D,(ss.length:Int),?_,x9,?_⟩
   ·rw [sl]; rfl
   obtain ⟨lv,L⟩:=hM.lv
   obtain ⟨⟨lv',L'⟩,ins'⟩:=aAN L hlast hr' hdm TK
   refine k ss _ (b09.trans aS.x) TK ⟨aA,(aD nax).trans a9,(aD nhx).trans h9,?_,?_,?_,fun i t' l' q1 q2=>?_,hD.ne⟩ ⟨?_,?_,?_,?_,hM.nx,lv',L'⟩
   ·show (D.ts.eraseIdx kk).length=(D.nums.eraseIdx kk).length
    rw [Xf,Xf,hD.tl]
   ·show (D.ws.eraseIdx kk).length=(D.nums.eraseIdx kk).length
    rw [Xf,Xf,hD.wl]
   ·show ((goS D.hs ss).eraseIdx kk).length=(D.nums.eraseIdx kk).length
    rw [Xf,Xf,hgl]
   ·exact (b09.trans aS.x).seqT hD.ins hD.able hD.hand (hD.tup _ t' l' (eP q1) (eP q2))
   ·refine lN hn1 hn6 (Ja (List.length_eraseIdx_le ..) hw12) fun l' hl'=>hws l' (Wd hl')
   ·refine rA ?_ fun j h l q1 q2=>ins' _ h l (eP q1) (eP q2)
    show ((goS D.hs ss).eraseIdx kk).length=(D.ws.eraseIdx kk).length
    rw [Xf,Xf,hgl,hD.wl]
   ·exact hM.up.sublist (Zt ..)
   ·exact fun k' hk'=>hM.few k' (Wd hk')
end
end Ab
namespace L2
open PySem
end L2
namespace Ab
open PySem L2
section
variable {P:Program} {w:World} {K:PySem.W.Frag} {mg:Str->Option Value} {base:Heap} {C:Addr}
def DD.begun (n:Int) (dx da dh:Addr):DD:=⟨n,0,0,0,[],[],[],dx,da,dh,[]⟩
theorem aAV {n:Int} {dx da dh:Addr} (h1:1<=n) (h2:n<=6):DlM (DD.begun n dx da dh) :=
 ⟨lN h1 h2 (Jz _) fun l hl=>(Qy hl).elim,rA rfl fun j h l q=>by simp [DD.begun] at q,List.Pairwise.nil,fun k hk=>(Qy hk).elim,Zx _,fun _=>0,fun h _ _=>by simp [DD.begun],fun w g l q=>by simp [DD.begun] at q⟩
def nX (K:PySem.W.Frag) (C:Addr):Sp:=fun vs H Q _=>∃ (x dx:Addr) (n:Int),vs = [.ref x,.int n]/\H x=some (.ins C dx [])/\1<=n/\n<=6 /\
 ∀ da dh H',But x H H'->H da=none->H dh=none->DlH K H' C x (DD.begun n dx da dh)->Q .non H'
theorem aBQ:FnScope ["self", "hands"] ["self", "hands"] (aI kZ):=⟨rfl,rfl,rfl,by decide +kernel,rfl,by decide +kernel,by decide +kernel⟩
theorem aAW {f fH:Addr} {fd dH:FuncData} (G:Mt K C "__init__" kZ ["self", "hands"] f fd) (T:Dc K C) (B:Bl mg) (GH:Fn K mg "are_hands" mY ["thing"] fH dH) (OH:FnOk P w K mg base CX0 2 fH dH ["thing"] (qW K)):FnOk P w K mg base CX0 3 f fd ["self", "hands"] (nX K C):=by
 refine G.fn.ok aBQ (fun vs H Q E h=>?_) (fun cdv A outer s H vs Q E hr h=>?_)
 ·obtain ⟨x,dx,n,rfl,_⟩:=h
  rfl
 ·obtain ⟨x,dx,n,rfl,hx,h1,h6,k⟩:=h
  have r2:Room 2 _:=hr
  refine ⟨_,aC (cG (iZ (gB (cA GH OH r2 rfl (aB (pv 1) aE)))) fO bI)
   (aC (jA (pv 0) (pv 1) rfl) (aC (jA (pv 0) gZ rfl) (aC (jA (pv 0) gZ rfl) (aC (jA (pv 0) aF rfl) (aC (jA (pv 0) aF rfl) (aH (jA (pv 0) aF rfl))))))),?_⟩
  have lt:∀ n:Nat,n<=6->n < 1000:=fun n h=>by omega
  refine ⟨_,rfl,.int n,.int n,rfl,dE.mpr rfl,_,rfl,jV ?_ ?_⟩
  ·show (!(eT (.int n)))=false
   rw [show eT (.int n)=true by simp [eT]; omega]; rfl
  refine ⟨_,rfl,_,rfl,x,C,dx,_,rfl,hx,T.cl,T.n1,lt 0 (by decide),fun da hda=>⟨_,rfl,x,C,dx,_,rfl,(aG.new hda) _ _ aA,T.cl,T.n2,lt 1 (by decide),fun dh hdh=>⟨_,rfl,x,C,dx,_,rfl,(aG.new hdh) _ _ aA,T.cl,T.n3,lt 2 (by decide),?_⟩⟩⟩
  refine ⟨_,rfl,x,C,dx,_,rfl,aA,T.cl,T.n4,lt 3 (by decide),_,rfl,x,C,dx,_,rfl,aA,T.cl,T.n5,lt 4 (by decide),_,rfl,x,C,dx,_,rfl,aA,T.cl,T.n6,lt 5 (by decide),?_⟩
  rw [gA,gA,gA]
  have nda:da≠x:=fun z=>by rw [z,aA] at hda; cases hda
  have ndh:dh≠x:=fun z=>by rw [z,aA] at hdh; cases hdh
  have ndd:da≠dh:=fun z=>by rw [<- z,aD nda,aA] at hdh; cases hdh
  have hda0:H da=none:=by rw [aD nda] at hda; exact hda
  have hdh0:H dh=none:=by rw [aD ndh,aD ndd.symm,aD ndh] at hdh; exact hdh
  refine k da dh _ (fun c u hc hu=>?_) hda0 hdh0 ⟨aA,?_,?_,rfl,rfl,rfl,fun i t l q=>by simp [DD.begun] at q,ndd⟩
  ·have n1:c≠da:=fun z=>by rw [z,hda0] at hu; cases hu
   have n2:c≠dh:=fun z=>by rw [z,hdh0] at hu; cases hu
   rw [aD hc,aD n2,aD hc,aD n1,aD hc]; exact hu
  ·show upd _ x _ da=some (.dK [])
   rw [aD nda,aD ndd,aD nda,aA]
  ·show upd _ x _ dh=some (.dK [])
   rw [aD ndh,aA]
end
def lk (en eh:List Int) (k:Int):Option Int:=(en.zip eh).lookup k
theorem gF:∀ (en eh:List Int) (k:Int),bJ (kvH en eh) (.inl k)=(lk en eh k).map V.int
 | [],_,_=>rfl
 | _::_,[],_=>rfl
 | n::en,g::eh,k=>by
  show bJ (((.inl n:Key),V.int g)::kvH en eh) (.inl k)=(((n,g)::en.zip eh).lookup k).map V.int
  rw [Jv]
  by_cases c:k=n
  ·rw [bV (by rw [c]),show (k==n)=true by simp [c]]; rfl
  ·rw [bW (fun z=>c (by injection z with z; exact z.symm)),show (k==n)=false by simp [c]]
   exact gF en eh k
def goB (en eh:List Int) (p:Int×Int):Bool:=(lk en eh p.1).any (fun g=>decide (g≠p.2))
def iD (en eh fn fh:List Int):List Int:=((fn.zip fh).filter (goB en eh)).map (·.1)
theorem nY {w:Nat}:∀ {ss:List (Nat×Int×Int)} {hs:List Int},(∀ s∈ss,s.1≠w)->(goS hs ss)[w]?=hs[w]?
 | [],_,_=>rfl
 | s::ss,hs,h=>by
  show (goS (hs.set s.1 s.2.2) ss)[w]?=_
  rw [nY fun s' hs'=>h s' (Qq _ hs'),Xi,if_neg (h s (Qr ..))]
theorem nZ {ws:List (List Int)} {x h:Int} {s:Nat×Int×Int} {ss:List (Nat×Int×Int)} {hs:List Int} (p:bH ws hs h (s::ss) x) (nd:(h::(s::ss).map (·.2.2)).Nodup):∀ s'∈ss,s'.1≠s.1/\s'.2.1≠h:=by
 obtain ⟨e1,⟨e2,_⟩,p2⟩:=p
 have nd2:=Je.mp nd
 intro s' hs'
 have hne:s'.2.1≠h:=fun z=>by
  rcases eF p2 s' hs' with q | ⟨s2,q1,q2⟩
  ·exact nd2.1 (by rw [<- z,q]; exact Qr ..)
  ·exact nd2.1 (Qq _ (Js.mpr ⟨s2,q1,q2.trans z⟩))
 refine ⟨fun z=>?_,hne⟩
 have:=(bX p2 s' hs').1
 rw [z,e2] at this
 exact hne (Option.some.inj this).symm
theorem rK {ws:List (List Int)} {x:Int}:∀ {ss:List (Nat×Int×Int)} {hs:List Int} {h:Int},bH ws hs h ss x->(h::ss.map (·.2.2)).Nodup->∀ s∈ss,(goS hs ss)[s.1]?=some s.2.2
 | [],_,_,_,_,s,hs'=>(Qy hs').elim
 | s0::ss,hs,h,p,nd,s,hs'=>by
  have ap:=nZ p nd
  obtain ⟨e1,⟨e2,e3⟩,p2⟩:=p
  have nd2:=Je.mp nd
  show (goS (hs.set s0.1 s0.2.2) ss)[s.1]?=_
  rcases Qs.mp hs' with rfl | hs'
  ·rw [nY fun s' h'=>(ap s' h').1,Xi,if_pos rfl,if_pos (Qa.mp e2).1]
  ·exact rK (nS (t':=s0.2.2) e2 p2 fun s' h'=>(ap s' h').2) (by have:=nd2.2; rwa [Qu] at this) s hs'
theorem pQ {ws:List (List Int)} {x h:Int} {ss:List (Nat×Int×Int)} {hs:List Int} (p:bH ws hs h ss x) (nd:(h::ss.map (·.2.2)).Nodup) (w:Nat):(goS hs ss)[w]?≠hs[w]?↔∃ s∈ss,s.1=w:=by
 constructor
 ·intro n
  refine Classical.byContradiction fun c=>n (nY fun s hs' z=>c ⟨s,hs',z⟩)
 ·rintro ⟨s,hs',rfl⟩ e
  rw [rK p nd s hs'] at e
  obtain ⟨q1,l,q2,q3,q4⟩:=bX p s hs'
  rw [q1] at e
  exact q4 (Option.some.inj e)
theorem iE {ws:List (List Int)} {hs:List Int} {x:Int}:∀ {q:List (Nat×Int×Int)} {h:Int},bH ws hs h q x->q≠[]->q.map (·.2.1)=h::(q.map (·.2.2)).dropLast
 | [],_,_,n=>absurd rfl n
 | [s],h,⟨e,_,_⟩,_=>by rw [<- e]; rfl
 | s::s2::q,h,⟨e,_,p⟩,_=>by
  have ih:=iE p (by simp)
  rw [Qu,ih,e,Qu (l:=s2::q),Qu,List.dropLast_cons_cons]
theorem fE:∀ {en eh:List Int} {k g:Int},lk en eh k=some g->∃ i:Nat,en[i]?=some k/\eh[i]?=some g
 | [],_,_,_,h=>by simp [lk] at h
 | _::_,[],_,_,h=>by simp [lk] at h
 | n::en,x::eh,k,g,h=>by
  unfold lk at h
  rw [Za,Jv] at h
  by_cases c:k=n
  ·rw [show (k==n)=true by simp [c]] at h
   exact ⟨0,by rw [c]; rfl,by simpa using h⟩
  ·rw [show (k==n)=false by simp [c]] at h
   obtain ⟨i,h1,h2⟩:=fE (en:=en) (eh:=eh) h
   exact ⟨i+1,by simpa using h1,by simpa using h2⟩
theorem iW:∀ {en eh:List Int} {k g:Int} {i:Nat},en.Nodup->en[i]?=some k->eh[i]?=some g->lk en eh k=some g
 | [],_,_,_,_,_,h,_=>by simp at h
 | _::_,[],_,_,_,_,_,h=>by simp at h
 | n::en,x::eh,k,g,0,_,h1,h2=>by
  have e1:n=k:=by simpa using h1
  have e2:x=g:=by simpa using h2
  unfold lk
  rw [Za,Jv,show (k==n)=true by simp [e1],e2]
 | n::en,x::eh,k,g,i+1,nd,h1,h2=>by
  have nd2:=Je.mp nd
  have h1':en[i]?=some k:=by simpa using h1
  unfold lk
  rw [Za,Jv,show (k==n)=false by simp; exact fun z=>nd2.1 (z ▸ Qe h1')]
  exact iW nd2.2 h1' (by simpa using h2)
theorem oA {en eh fn fh:List Int} (nd:fn.Nodup):(iD en eh fn fh).Nodup :=
 List.Nodup.sublist (((List.filter_sublist).map _).trans (by
  have:∀ (a b:List Int),((a.zip b).map (·.1)).Sublist a:=by
   intro a
   induction a with
   | nil=>intro b; simp
   | cons x a ih => intro b; cases b with
     | nil=>simp
     | cons y b=>rw [Za,Qu]; exact (ih b).cons₂ _
  exact this fn fh)) nd
theorem iF {en eh fn fh:List Int} (nd:fn.Nodup) (k:Int):k∈iD en eh fn fh↔∃ a b,lk en eh k=some a/\lk fn fh k=some b/\a≠b:=by
 unfold iD
 rw [Js]
 constructor
 ·rintro ⟨⟨k',b⟩,h,rfl⟩
  obtain ⟨h1,h2⟩:=Xw.mp h
  obtain ⟨i,hi⟩:=Qw.mp h1
  rw [Jo] at hi
  unfold goB at h2
  cases e:lk en eh k' with
  | none=>rw [e] at h2; cases h2
  | some a =>
   rw [e] at h2
   exact ⟨a,b,rfl,iW nd hi.1 hi.2,of_decide_eq_true h2⟩
 ·rintro ⟨a,b,h1,h2,h3⟩
  obtain ⟨i,q1,q2⟩:=fE h2
  refine ⟨(k,b),Xw.mpr ⟨Qe (Jo.mpr ⟨q1,q2⟩),?_⟩,rfl⟩
  unfold goB
  rw [h1]
  exact decide_eq_true h3
theorem pR {ws:List (List Int)} {hs:List Int} {x h:Int} {q:List (Nat×Int×Int)} (p:bH ws hs h q x) (nd:(h::q.map (·.2.2)).Nodup):(q.map (·.2.1)).Nodup:=by
 by_cases c:q = []
 ·rw [c]; exact List.nodup_nil
 ·rw [iE p c]
  exact nd.sublist ((List.dropLast_sublist _).cons₂ _)
theorem pS {en eh fn fh:List Int} {q:List (Nat×Int×Int)} (ndf:fn.Nodup) (key:Nat×Int×Int->Int) (H1:∀ s∈q,lk en eh (key s)=some s.2.1/\lk fn fh (key s)=some s.2.2/\s.2.1≠s.2.2)
  (H2:∀ k a b,lk en eh k=some a->lk fn fh k=some b->a≠b->∃ s∈q,key s=k) (nd:(q.map (·.2.1)).Nodup) :
  ((iD en eh fn fh).map fun k=>(lk en eh k,lk fn fh k)).Perm (q.map fun s=>(some s.2.1,some s.2.2)):=by
 have nk:(q.map key).Nodup:=by
  have e:(q.map key).map (fun k=>(lk en eh k).getD 0)=q.map (·.2.1):=by
   rw [Zd]
   refine Yw fun s hs=>?_
   show (lk en eh (key s)).getD 0=s.2.1
   rw [(H1 s hs).1]; rfl
  rw [<- e] at nd
  rw [Jy,List.pairwise_map] at nd
  exact Jy.mpr (nd.imp fun h z=>h (by rw [z]))
 have pm:(iD en eh fn fh).Perm (q.map key):=(List.perm_ext_iff_of_nodup (oA ndf) nk).mpr fun k=>by
  rw [iF ndf,Js]
  constructor
  ·rintro ⟨a,b,h1,h2,h3⟩
   exact H2 k a b h1 h2 h3
  ·rintro ⟨s,hs,rfl⟩
   exact ⟨_,_,H1 s hs⟩
 refine (pm.map _).trans ?_
 rw [Zd]
 refine List.Perm.of_eq (Yw fun s hs=>?_)
 show (lk en eh (key s),lk fn fh (key s))=_
 rw [(H1 s hs).1,(H1 s hs).2.1]
def tK (en eh fn fh:List Int) (m:Nat):Prop:=∃ (q:List (Nat×Int×Int)) (ws:List (List Int)) (hs:List Int) (h x:Int),bH ws hs h q x/\(h::q.map (·.2.2)).Nodup/\((iD en eh fn fh).map fun k=>(lk en eh k,lk fn fh k)).Perm (q.map fun s=>(some s.2.1,some s.2.2))/\q.length=m
theorem tK.len {en eh fn fh:List Int} {m:Nat} (h:tK en eh fn fh m):(iD en eh fn fh).length=m:=by
 obtain ⟨q,_,_,_,_,_,_,p,e⟩:=h
 have:=p.length_eq
 rw [Qd,Qd] at this
 rw [this,e]
theorem gK {l:List Int} (nd:l.Nodup) {i j:Nat} {a:Int} (hi:l[i]?=some a) (hj:l[j]?=some a):i=j:=by
 obtain ⟨h1,e1⟩:=Qa.mp hi
 obtain ⟨h2,e2⟩:=Qa.mp hj
 exact (Wf nd).mp (e1.trans e2.symm)
theorem aBR {nums hs:List Int} {ws:List (List Int)} {n nx last:Int} {ss:List (Nat×Int×Int)} (nd:(nums++[nx]).Nodup) (hl:hs.length=nums.length) (hr:∀ g∈hs,0<=g/\g < n) (p:bH ws (hs++[n]) n ss last) (sn:(n::ss.map (·.2.2)).Nodup) (ne:ss≠[]):tK nums hs (nums++[nx]) (goS (hs++[n]) ss) (ss.length - 1):=by
 have nd1:nums.Nodup:=(Xj.mp nd).1
 cases ss with
 | nil=>exact absurd rfl ne
 | cons s0 q =>
  have ap:=nZ p sn
  have mv:=fun w=>pQ p sn w
  have at':=rK p sn
  have edges:=bX p
  obtain ⟨e1,⟨e2,_⟩,p2⟩:=p
  have sn2:(s0.2.2::q.map (·.2.2)).Nodup:=(Je.mp sn).2
  have gl:(goS (hs++[n]) (s0::q)).length=hs.length+1:=by rw [eM,Qh]; rfl
  have low:∀ {i:Nat} {a:Int},hs[i]?=some a->(hs++[n])[i]?=some a:=fun h=>by
   rw [Qj (Qa.mp h).1]; exact h
  refine ⟨q,ws,hs++[n],s0.2.2,last,p2,sn2,pS nd (fun s=>nums.getD s.1 0) (fun s hs'=>?_) (fun k a b h1 h2 h3=>?_) (pR p2 sn2),rfl⟩
  ·obtain ⟨q1,_,_,_,q4⟩:=edges s (Qq _ hs')
   have hg:=at' s (Qq _ hs')
   have hne:=(ap s hs').2
   have hlt:s.1 < hs.length:=by
    refine Nat.lt_of_not_le fun z=>?_
    have:s.1=hs.length:=by
     have:=(Qa.mp q1).1
     rw [Qh] at this
     have:s.1 < hs.length+1:=this
     omega
    rw [this,Qv (Qi _),Xk] at q1
    exact hne (by simpa using q1.symm)
   have hk:nums[s.1]?=some (nums.getD s.1 0):=by
    rw [Jt,Qb (by omega)]; rfl
   have hk':(nums++[nx])[s.1]?=some (nums.getD s.1 0):=by rw [Qj (by omega)]; exact hk
   rw [Qj hlt] at q1
   exact ⟨iW nd1 hk q1,iW nd hk' hg,q4.symm⟩
  ·obtain ⟨i,i1,i2⟩:=fE h1
   obtain ⟨j,j1,j2⟩:=fE h2
   have hi:i < nums.length:=(Qa.mp i1).1
   have i1':(nums++[nx])[i]?=some k:=by rw [Qj hi]; exact i1
   have ij:j=i:=gK nd j1 i1'
   subst ij
   obtain ⟨s,s1,s2⟩:=(mv j).mp (by rw [j2,low i2]; exact fun z=>h3 (Option.some.inj z).symm)
   rcases Qs.mp s1 with rfl | s1
   ·exfalso
    rw [s2,low i2] at e2
    have:=hr a (Qe i2)
    have:=Option.some.inj e2
    omega
   ·exact ⟨s,s1,by show nums.getD s.1 0=k; rw [s2,Jt,i1]; rfl⟩
theorem aCz {α:Type} {l:List α} {k i:Nat} {a:α} (h:l[i]?=some a) (n:i≠k):∃ j:Nat,(l.eraseIdx k)[j]?=some a/\∀ {β:Type} (m:List β),(m.eraseIdx k)[j]?=m[i]?:=by
 by_cases c:i < k
 ·refine ⟨i,?_,fun m=>?_⟩
  ·rw [Xo,if_pos c]; exact h
  ·rw [Xo,if_pos c]
 ·refine ⟨i - 1,?_,fun m=>?_⟩
  ·rw [Xo,if_neg (by omega),show i - 1+1=i by omega]; exact h
  ·rw [Xo,if_neg (by omega),show i - 1+1=i by omega]
theorem aAX {α β:Type} {l:List α} {m:List β} {k j:Nat} {a:α} {b:β} (h:(l.eraseIdx k)[j]?=some a) (h2:(m.eraseIdx k)[j]?=some b):∃ i,i≠k/\l[i]?=some a/\m[i]?=some b:=by
 rw [Xo] at h h2
 by_cases c:j < k
 ·rw [if_pos c] at h h2; exact ⟨j,by omega,h,h2⟩
 ·rw [if_neg c] at h h2; exact ⟨j+1,by omega,h,h2⟩
theorem vP {nums hs:List Int} {ws:List (List Int)} {last h:Int} {k0:Nat} {ss:List (Nat×Int×Int)} (nd:nums.Nodup) (hl:hs.length=nums.length) (hk:hs[k0]?=some last) (p:bH ws hs h ss last) (sn:(h::ss.map (·.2.2)).Nodup):tK nums hs (nums.eraseIdx k0) ((goS hs ss).eraseIdx k0) ss.length:=by
 have nd2:(nums.eraseIdx k0).Nodup:=nd.sublist (Zt ..)
 have mv:=fun w=>pQ p sn w
 have at':=rK p sn
 have edges:=bX p
 -- the last hand gives nothing
 have nl:∀ s∈ss,s.2.1≠last:=fun s hs' z=>by
  have hne:ss≠[]:=fun z=>by rw [z] at hs'; cases hs'
  have e:=iE p hne
  have hm:s.2.1∈ss.map (·.2.1):=Js.mpr ⟨s,hs',rfl⟩
  rw [e,z] at hm
  have hlast:(ss.map (·.2.2)).getLast (by simpa using hne)=last:=by
   have:∀ {q:List (Nat×Int×Int)} {h:Int} (n:q≠[]),bH ws hs h q last->(q.map (·.2.2)).getLast (by simpa using n)=last:=by
    intro q
    induction q with
    | nil=>intro h n; exact absurd rfl n
    | cons s q ih =>
     intro h n ⟨_,_,p⟩
     cases q with
     | nil=>exact p
     | cons s2 q=>simpa using ih (by simp) p
   exact this hne p
  have spl:=Ys (l:=ss.map (·.2.2)) (by simpa using hne)
  rw [hlast] at spl
  rw [<- spl,<- Yn] at sn
  exact (Xj.mp sn).2.2 last hm last (Qm.mpr rfl) rfl
 refine ⟨ss,ws,hs,h,last,p,sn,pS nd2 (fun s=>nums.getD s.1 0) (fun s hs'=>?_) (fun k a b h1 h2 h3=>?_) (pR p sn),rfl⟩
 ·obtain ⟨q1,_,_,_,q4⟩:=edges s hs'
  have hlt:=(Qa.mp q1).1
  have hk1:nums[s.1]?=some (nums.getD s.1 0):=by
   rw [Jt,Qb (by omega)]; rfl
  have hn:s.1≠k0:=fun z=>by
   rw [z,hk] at q1
   exact nl s hs' (Option.some.inj q1).symm
  obtain ⟨j,j1,j2⟩:=aCz hk1 hn
  exact ⟨iW nd hk1 q1,iW nd2 j1 (by rw [j2]; exact at' s hs'),q4.symm⟩
 ·obtain ⟨i,i1,i2⟩:=fE h1
  obtain ⟨j,j1,j2⟩:=fE h2
  obtain ⟨i',_,i1',i2'⟩:=aAX j1 j2
  have e:i'=i:=gK nd i1' i1
  subst e
  obtain ⟨s,s1,s2⟩:=(mv i').mp (by rw [i2',i2]; exact fun z=>h3 (Option.some.inj z).symm)
  exact ⟨s,s1,by show nums.getD s.1 0=k; rw [s2,Jt,i1]; rfl⟩
theorem uQ:∀ {l m:List Int},l.Nodup->(∀ x∈l,x∈m)->l.length<=m.length
 | [],_,_,_=>Jz _
 | x::l,m,nd,h=>by
  have nd2:=Je.mp nd
  have hx:=h x (Qr ..)
  have ih:=uQ (m:=m.erase x) nd2.2 fun y hy=>(Wr (fun z:y=x=>nd2.1 (z ▸ hy))).mpr (h y (Qq _ hy))
  rw [Zz hx] at ih
  have:=Yi hx
  rw [Qz]; omega
theorem uR {en eh mn mh fn fh:List Int} (nde:fn.Nodup) (ndm:mn.Nodup) (hm:∀ k,k∈fn->k∈en->k∈mn) (hml:mh.length=mn.length):(iD en eh fn fh).length<=(iD en eh mn mh).length+(iD mn mh fn fh).length:=by
 rw [<- Qh]
 refine uQ (oA nde) fun k hk=>?_
 obtain ⟨a,b,h1,h2,h3⟩:=(iF nde k).mp hk
 obtain ⟨i,i1,_⟩:=fE h1
 obtain ⟨j,j1,_⟩:=fE h2
 have:=hm k (Qe j1) (Qe i1)
 obtain ⟨o,ho⟩:=Qw.mp this
 obtain ⟨c,hc⟩:∃ c,mh[o]?=some c:=⟨_,Qb (by have:=(Qa.mp ho).1; omega)⟩
 have h4:=iW ndm ho hc
 rw [Jq,iF ndm,iF nde]
 by_cases d:a=c
 ·exact .inr ⟨c,b,h4,h2,fun z=>h3 (d.trans z)⟩
 ·exact .inl ⟨a,c,h1,h4,d⟩
theorem DlM.nd {D:DD} (h:DlM D):D.nums.Nodup:=Jy.mpr (h.up.imp fun h=>Wz h)
theorem DlM.hr {D:DD} (h:DlM D):∀ g∈D.hs,0<=g/\g < D.n:=fun g hg=>by
 obtain ⟨hn1,hn6,hw12,hws⟩:=bF h.bk
 obtain ⟨hdl,hdm⟩:=bM h.dl
 obtain ⟨i,hi⟩:=Qw.mp hg
 have hl:=Qb (show i < D.ws.length by rw [<- hdl]; exact (Qa.mp hi).1)
 exact (bA (hws _ (Qe hl))).2.1 g (hdm i _ _ hi hl)
theorem DlM.wr {D:DD} (h:DlM D) {w:Nat} {l:List Int} (hl:D.ws[w]?=some l):∀ t∈l,0<=t/\t < D.n :=
 (bA ((bF h.bk).2.2.2 l (Qe hl))).2.1
theorem pT {ws:List (List Int)} {hs:List Int} {n x h:Int} {q:List (Nat×Int×Int)} (p:bH ws hs h q x) (hw:∀ (w:Nat) l,ws[w]?=some l->∀ t∈l,0<=t/\t < n):∀ t∈q.map (·.2.2),0<=t/\t < n:=fun t ht=>by
 obtain ⟨s,hs',rfl⟩:=Js.mp ht
 obtain ⟨_,l,q2,q3,_⟩:=bX p s hs'
 exact hw _ l q2 _ q3
theorem xD {u:List Int} {i k:Nat} {x:Int} (h1:u[i]?=some x) (h2:u[k]?=some x) (lt:i < k):2<=u.count x:=by
 have e:u.count x=(u.take k).count x+(u.drop k).count x:=by rw [<- Xu,List.take_append_drop]
 have a:0 < (u.take k).count x:=Yg.mpr (Qe (i:=i) (by rw [Zm,if_pos lt]; exact h1))
 have b:0 < (u.drop k).count x:=Yg.mpr (Qe (i:=0) (by rw [Yh]; exact h2))
 omega
theorem oB {c u:List Int} {bs:Int} {cnt lv:Int->Int} (hn:c.length=u.length+1) (nd:c.Nodup) (hu:∀ (i:Nat) x,u[i]?=some x->c[i]?=some x∨c[i+1]?=some x)
  (hl:∀ g∈c,lv g<=cnt g/\cnt g<=lv g+1) (hc:∀ (j:Nat) g,c[j]?=some g->cnt g=bs+(u.count g:Nat)+(if j+1=c.length then 1 else 0))
  (hlv:∀ (i:Nat) x y,u[i]?=some x->(c[i]?=some y∨c[i+1]?=some y)->lv x<=lv y):∀ (i:Nat) x,u[i]?=some x->c[i]?=some x:=by
 intro j
 induction j using Nat.strongRecOn with
 | _ j ih =>
  intro x hx
  refine Classical.byContradiction fun hne=>?_
  have hj:j < u.length:=(Qa.mp hx).1
  have hx1:c[j+1]?=some x:=(hu j x hx).resolve_left hne
  obtain ⟨g,hg⟩:∃ g,c[j]?=some g:=⟨_,Qb (by omega)⟩
  have c0:u.count g=0:=Xz.mpr fun hm=>by
   obtain ⟨i,hi⟩:=Qw.mp hm
   rcases hu i g hi with z | z
   ·have:=gK nd z hg
    subst this
    rw [hx] at hi
    exact hne (by rw [Option.some.inj hi]; exact hg)
   ·have:=gK nd z hg
    have z2:=ih i (by omega) g hi
    have:=gK nd z2 hg
    omega
  have hcg:=hc j g hg
  rw [c0,if_neg (by omega)] at hcg
  have lg:=(hl g (Qe hg)).1
  have all:∀ d i,i=j+d->i < u.length->∃ y,u[i]?=some y/\c[i+1]?=some y/\lv y<=bs:=by
   intro d
   induction d with
   | zero =>
    intro i e hi
    have e':i=j:=by omega
    rw [e']
    exact ⟨x,hx,hx1,by have:=hlv j x g hx (.inl hg); omega⟩
   | succ d ihd =>
    intro i e0 hi
    subst e0
    obtain ⟨y,y1,y2,y3⟩:=ihd (j+d) rfl (by omega)
    obtain ⟨z,hz⟩:∃ z,u[j+(d+1)]?=some z:=⟨_,Qb hi⟩
    have hz':=hu _ z hz
    have e:j+(d+1)=j+d+1:=by omega
    rw [e] at hz hz' ⊢
    have lz:=hlv _ z y hz (.inl y2)
    refine ⟨z,hz,hz'.resolve_left fun h=>?_,by omega⟩
    rw [y2] at h
    cases h
    have:=xD y1 hz (by omega)
    have h1:=hc _ y y2
    have h2:=(hl y (Qe y2)).2
    split at h1 <;> omega
  obtain ⟨y,y1,y2,y3⟩:=all (u.length - 1 - j) (u.length - 1) (by omega) (by omega)
  have h1:=hc _ y y2
  rw [if_pos (by omega)] at h1
  have h2:=(hl y (Qe y2)).2
  have h3:0 < u.count y:=Yg.mpr (Qe y1)
  omega
theorem zZ {c u:List Int} {bs:Int} {cnt lv:Int->Int} (hn:c.length=u.length+1) (nd:c.Nodup) (hu:∀ (i:Nat) x,u[i]?=some x->c[i]?=some x∨c[i+1]?=some x)
  (hl:∀ g∈c,lv g<=cnt g/\cnt g<=lv g+1) (hc:∀ (j:Nat) g,c[j]?=some g->cnt g=bs+(u.count g:Nat)+(if j=0 then 1 else 0))
  (hlv:∀ (i:Nat) x y,u[i]?=some x->(c[i]?=some y∨c[i+1]?=some y)->lv x<=lv y):∀ (i:Nat) x,u[i]?=some x->c[i+1]?=some x:=by
 have rv:∀ {l:List Int} {i:Nat} {x:Int},l.reverse[i]?=some x->i < l.length/\l[l.length - 1 - i]?=some x:=fun {l i x} h=>by
  have hi:i < l.length:=by have:=(Qa.mp h).1; rwa [Zf] at this
  exact ⟨hi,by rw [<- Ym hi]; exact h⟩
 have vr:∀ {l:List Int} {i j:Nat} {x:Int},l[i]?=some x->j+i+1=l.length->l.reverse[j]?=some x:=fun {l i j x} h e=>by
  rw [Ym (by omega),show l.length - 1 - j=i by omega]; exact h
 have core:=oB (c:=c.reverse) (u:=u.reverse) (bs:=bs) (cnt:=cnt) (lv:=lv) (by rw [Zf,Zf]; exact hn) ((List.reverse_perm c).nodup_iff.mpr nd)
  (fun i x h=>by
   obtain ⟨hi,h'⟩:=rv h
   rcases hu _ x h' with z | z
   ·exact .inr (vr z (by omega))
   ·exact .inl (vr z (by omega)))
  (fun g hg=>hl g (List.mem_reverse.mp hg))
  (fun j g h=>by
   obtain ⟨hj,h'⟩:=rv h
   rw [hc _ g h',List.count_reverse,Zf]
   congr 1
   by_cases q:j+1=c.length
   ·rw [if_pos (by omega),if_pos q]
   ·rw [if_neg (by omega),if_neg q])
  (fun i x y h1 h2=>by
   obtain ⟨hi,h'⟩:=rv h1
   refine hlv _ x y h' ?_
   rcases h2 with z | z
   ·have:=(rv z).2
    exact .inr (by rw [show u.length - 1 - i+1=c.length - 1 - i by omega]; exact this)
   ·have:=(rv z).2
    exact .inl (by rw [show u.length - 1 - i=c.length - 1 - (i+1) by omega]; exact this))
 intro i x h
 have hi:=(Qa.mp h).1
 have:=core (u.length - 1 - i) x (vr h (by omega))
 have:=(rv this).2
 rwa [show c.length - 1 - (u.length - 1 - i)=i+1 by omega] at this
def AsD (D:DD):List (Int×List Int):=D.nums.zip D.ws
def hdD (D:DD) (p:Int×List Int):Int:=(lk D.nums D.hs p.1).getD 0
structure LnD (D:DD):Prop where
 m:DlM D
 h:D.hs.length=D.nums.length
 w:D.ws.length=D.nums.length
theorem aBf {D:DD} (L:LnD D) {i:Nat} {k:Int} {l:List Int} (h1:D.nums[i]?=some k) (h2:D.ws[i]?=some l):D.hs[i]?=some (hdD D (k,l))/\lk D.nums D.hs k=some (hdD D (k,l)):=by
 obtain ⟨g,hg⟩:∃ g,D.hs[i]?=some g:=⟨_,Qb (by have:=(Qa.mp h1).1; have:=L.h; omega)⟩
 have:=iW L.m.nd h1 hg
 have e:hdD D (k,l)=g:=by unfold hdD; rw [this]; rfl
 exact ⟨by rw [e]; exact hg,by rw [e]; exact this⟩
theorem eV {D:DD} (L:LnD D) {p:Int×List Int} (hp:p∈AsD D):lk D.nums D.hs p.1=some (hdD D p)/\hdD D p∈p.2/\∀ lv,Lv D.n D.ws D.hs lv->∀ t∈p.2,lv (hdD D p)<=lv t:=by
 obtain ⟨i,hi⟩:=Qw.mp hp
 unfold AsD at hi
 rw [Jo] at hi
 obtain ⟨e1,e2⟩:=aBf L hi.1 hi.2
 exact ⟨e2,(bM L.m.dl).2 i _ _ e1 hi.2,fun lv q t ht=>q.2 i _ _ e1 hi.2 t ht⟩
theorem aAa {D:DD} (L:LnD D):(AsD D).map (hdD D)=D.hs:=by
 refine Xv fun i=>?_
 rw [Qg]
 unfold AsD
 cases e1:D.nums[i]? with
 | none =>
  have:=Qx.mp e1
  have h:=L.h
  rw [Qx.mpr (by rw [Xn]; omega),Qx.mpr (by omega)]; rfl
 | some k =>
  obtain ⟨l,hl⟩:∃ l,D.ws[i]?=some l:=⟨_,Qb (by have:=(Qa.mp e1).1; have:=L.w; omega)⟩
  have hz:(D.nums.zip D.ws)[i]?=some (k,l):=Jo.mpr ⟨e1,hl⟩
  rw [hz,(aBf L e1 hl).1]; rfl
structure Chn (c:List Int) (bs:Nat) (B X:List (Int×List Int)):Prop where
 nd:c.Nodup
 len:c.length=X.length+1
 b1:∀ p∈B,∃ g∈c,p.2 = [g]
 bc:∀ g∈c,(B.map (·.2)).count [g]=bs
 x1:∀ (i:Nat) p,X[i]?=some p->∀ t,t∈p.2↔(c[i]?=some t∨c[i+1]?=some t)
theorem kA {f:Int×List Int->Int} {g:Int}:∀ {B:List (Int×List Int)},(∀ p∈B,p.2 = [f p])->(B.map f).count g=(B.map (·.2)).count [g]
 | [],_=>rfl
 | p::B,h=>by
  rw [Qu,Qu,Jw,Jw,kA fun q hq=>h q (Qq _ hq),h p (Qr ..)]
  simp
theorem dY {c:List Int} {bs:Nat} {B X Y:List (Int×List Int)} {D:DD} (Ch:Chn c bs B X) (L:LnD D) (pm:(AsD D).Perm (B++(Y++[(e,[z])]))):hdD D (e,[z])=z/\∀ g∈c,D.hs.count g=bs+(Y.map (hdD D)).count g+(if z=g then 1 else 0):=by
 have hz:hdD D (e,[z])=z:=by
  have:=(eV L (pm.mem_iff.mpr (Qn _ (Qn _ (Qm.mpr rfl))))).2.1
  simpa using this
 refine ⟨hz,fun g hg=>?_⟩
 have h1:=(pm.map (hdD D)).count_eq g
 rw [aAa L,Jk,Jk,Xu,Xu,kA (f:=hdD D),Ch.bc g hg] at h1
 ·rw [h1,Qu,Zy,hz,Jw,Wt]
  by_cases q:z=g
  ·rw [if_pos q,if_pos (by simp [q])]; omega
  ·rw [if_neg q,if_neg (by simp [q])]; omega
 ·intro p hp
  obtain ⟨g',_,e'⟩:=Ch.b1 p hp
  have:=(eV L (pm.mem_iff.mpr (Jm _ hp))).2.1
  rw [e'] at this ⊢
  rw [Qm.mp this]
theorem Chn.hands {c:List Int} {bs:Nat} {B X:List (Int×List Int)} {D:DD} (Ch:Chn c bs B X) (L:LnD D) {i:Nat} {p:Int×List Int} (hx:X[i]?=some p) (hp:p∈AsD D):lk D.nums D.hs p.1=some (hdD D p)/\(c[i]?=some (hdD D p)∨c[i+1]?=some (hdD D p)):=by
 obtain ⟨h1,h2,_⟩:=eV L hp
 exact ⟨h1,(Ch.x1 i p hx _).mp h2⟩
section
variable {c:List Int} {bs:Nat} {B X:List (Int×List Int)} {D:DD} {e z:Int}
theorem pU (Ch:Chn c bs B X) (L:LnD D) (hc:∀ g∈c,0<=g/\g < D.n) (pm:(AsD D).Perm (B++(X++[(e,[z])]))) :
  ∃ (u:List Int) (lv:Int->Int),u=X.map (hdD D)/\c.length=u.length+1/\(∀ (i:Nat) x,u[i]?=some x->c[i]?=some x∨c[i+1]?=some x)/\(∀ g∈c,lv g<=((D.hs.count g:Nat):Int)/\((D.hs.count g:Nat):Int)<=lv g+1)/\(∀ g∈c,((D.hs.count g:Nat):Int)=bs+(u.count g:Nat)+(if z=g then 1 else 0))/\(∀ (i:Nat) x y,u[i]?=some x->(c[i]?=some y∨c[i+1]?=some y)->lv x<=lv y):=by
 obtain ⟨lv,hlv⟩:=L.m.lv
 have hX:∀ {i:Nat} {p:Int×List Int},X[i]?=some p->p∈AsD D:=fun h=>pm.mem_iff.mpr (Qn _ (Jm _ (Qe h)))
 have hU:∀ {i:Nat} {x:Int},(X.map (hdD D))[i]?=some x->∃ p,X[i]?=some p/\x=hdD D p:=fun h=>by
  rw [Qg] at h
  obtain ⟨p,hp,rfl⟩:=Jr.mp h
  exact ⟨p,hp,rfl⟩
 refine ⟨X.map (hdD D),lv,rfl,by rw [Qd]; exact Ch.len,fun i x h=>?_,fun g hg=>?_,fun g hg=>?_,fun i x y h hy=>?_⟩
 ·obtain ⟨p,hp,rfl⟩:=hU h
  exact (Ch.hands L hp (hX hp)).2
 ·exact hlv.1 g (hc g hg).1 (hc g hg).2
 ·rw [(dY Ch L pm).2 g hg]
  split <;> simp
 ·obtain ⟨p,hp,rfl⟩:=hU h
  exact (eV L (hX hp)).2.2 lv hlv y ((Ch.x1 i p hp y).mpr hy)
theorem iP (Ch:Chn c bs B X) (L:LnD D) (hc:∀ g∈c,0<=g/\g < D.n) (pm:(AsD D).Perm (B++(X++[(e,[z])]))) (hz:c[X.length]?=some z):X.map (hdD D)++[z]=c:=by
 obtain ⟨u,lv,hu,h1,h2,h3,h4,h5⟩:=pU Ch L hc pm
 have core:=oB h1 Ch.nd h2 h3 (fun j g hj=>by
  rw [h4 g (Qe hj)]
  have e:(z=g)↔j+1=c.length:=⟨fun q=>by subst q; have:=gK Ch.nd hj hz; have:=Ch.len; omega,fun q=>by
   have:j=X.length:=by have:=Ch.len; omega
   rw [this,hz] at hj; exact Option.some.inj hj⟩
  by_cases q:z=g
  ·rw [if_pos q,if_pos (e.mp q)]
  ·rw [if_neg q,if_neg fun w=>q (e.mpr w)]) h5
 rw [<- hu]
 have hul:u.length=X.length:=by rw [hu,Qd]
 refine Xv fun i=>?_
 by_cases c1:i < u.length
 ·rw [Qj c1,Qb c1]
  exact (core i _ (Qb c1)).symm
 ·rw [Qv (by omega)]
  by_cases c2:i=u.length
  ·rw [c2,Xk,hul,hz]; rfl
  ·rw [Qx.mpr (by show 1<=_; omega),Qx.mpr (by omega)]
theorem jE (Ch:Chn c bs B X) (L:LnD D) (hc:∀ g∈c,0<=g/\g < D.n) (pm:(AsD D).Perm (B++(X++[(e,[z])]))) (hz:c[0]?=some z):z::X.map (hdD D)=c:=by
 obtain ⟨u,lv,hu,h1,h2,h3,h4,h5⟩:=pU Ch L hc pm
 have core:=zZ h1 Ch.nd h2 h3 (fun j g hj=>by
  rw [h4 g (Qe hj)]
  have e:(z=g)↔j=0:=⟨fun q=>by subst q; exact gK Ch.nd hj hz,fun q=>by rw [q,hz] at hj; exact Option.some.inj hj⟩
  by_cases q:z=g
  ·rw [if_pos q,if_pos (e.mp q)]
  ·rw [if_neg q,if_neg fun w=>q (e.mpr w)]) h5
 rw [<- hu]
 refine Xv fun i=>?_
 cases i with
 | zero=>exact hz.symm
 | succ i =>
  rw [Xl]
  by_cases c1:i < u.length
  ·rw [Qb c1]
   exact (core i _ (Qb c1)).symm
  ·rw [Qx.mpr (by omega),Qx.mpr (by omega)]
end
def xE (l:List Int) (t:Addr) (D D':DD):Prop:=∃ hs m ss last,PutS D l hs m ss last/\D'=D.put l t hs m
def tL (num:Int) (D D':DD):Prop:=∃ (k:Nat) (last:Int) (ss:List (Nat×Int×Int)),D.nums[k]?=some num/\D.hs[k]?=some last/\lC D.n D.ws D.hs last D.n ss/\D'=D.take k ss
def Mvd (D D':DD):Prop:=∃ m:Nat,tK D.nums D.hs D'.nums D'.hs m/\D'.ml=m/\D'.ma=D.ma+m/\(m:Int)<=D.n - 1
section
variable {c:List Int} {bs:Nat} {B X R:List (Int×List Int)} {D D' D0 D1 D2:DD} {e z num:Int} {l:List Int} {t:Addr}
theorem tM (L:LnD D) (p:xE l t D D'):AsD D'=AsD D++[(D.nx,l)]/\D'.n=D.n/\D'.nx=D.nx+1/\D'.nums=D.nums++[D.nx]/\D'.ws=D.ws++[l]:=by
 obtain ⟨hs,m,ss,last,PS,rfl⟩:=p
 refine ⟨?_,rfl,rfl,rfl,rfl⟩
 show (D.nums++[D.nx]).zip (D.ws++[l])=D.nums.zip D.ws++[(D.nx,l)]
 rw [Wn L.w.symm]; rfl
theorem oC (L:LnD D) (hM':DlM D') (p:xE l t D D'):Mvd D D':=by
 obtain ⟨hs,m,ss,last,PS,rfl⟩:=p
 obtain ⟨p,nd,ne,rfl,rfl⟩:=PS
 have ndn:(D.nums++[D.nx]).Nodup:=hM'.nd
 have pos:0 < ss.length:=List.length_pos_iff.mpr ne
 refine ⟨ss.length - 1,aBR ndn L.h L.m.hr p nd ne,?_,?_,?_⟩
 ·show (ss.length:Int) - 1=_; omega
 ·show D.ma+((ss.length:Int) - 1)=_; omega
 ·have:=fX D.n.toNat (ss.map (·.2.2)) (Je.mp nd).2 fun x hx=>by
   have:=pT p (fun w l q=>hM'.wr q) x hx
   have e:(D.put l t (goS (D.hs++[D.n]) ss) ((ss.length:Int) - 1)).n=D.n:=rfl
   rw [e] at this
   omega
  rw [Qd] at this
  have:=(bF L.m.bk).1
  omega
theorem vQ (L:LnD D) (p:tL num D D'):Mvd D D':=by
 obtain ⟨k,last,ss,h1,h2,T,rfl⟩:=p
 have n1:=(bF L.m.bk).1
 rcases T with ⟨rfl,_⟩ | ⟨h,_,p,nd,h0,hn,_⟩
 ·exact ⟨0,vP (ss:=[]) (ws:=[]) (h:=last) L.m.nd L.h h2 rfl (by simp),rfl,rfl,by omega⟩
 ·refine ⟨ss.length,vP L.m.nd L.h h2 p nd,rfl,rfl,?_⟩
  have:=fX D.n.toNat (h::ss.map (·.2.2)) nd fun x hx=>by
   rcases Qs.mp hx with rfl | hx
   ·omega
   ·have:=pT p (fun w l q=>L.m.wr q) x hx
    omega
  rw [Qz,Qd] at this
  omega
theorem pV:∀ (a:List Int) (b:List (List Int)) (k:Nat),(a.eraseIdx k).zip (b.eraseIdx k)=(a.zip b).eraseIdx k
 | [],_,_=>by simp
 | _::_,[],_=>by simp
 | x::a,y::b,0=>by simp
 | x::a,y::b,k+1=>by
  rw [Xm,Xm,Za,Za,Xm,pV a b k]
theorem lU {α:Type}:∀ {l:List α} {k:Nat} {a:α},l[k]?=some a->(a::l.eraseIdx k).Perm l
 | [],_,_,h=>by simp at h
 | x::l,0,a,h=>by
  have e:x=a:=by simpa using h
  rw [e]; exact List.Perm.refl _
 | x::l,k+1,a,h=>(List.Perm.swap x a _).trans ((lU (l:=l) (k:=k) (by simpa using h)).cons x)
theorem aAb (L:LnD D) (p:tL num D D') (pm:(AsD D).Perm ((num,l)::R)):(AsD D').Perm R/\D'.n=D.n/\D'.nx=D.nx/\∀ k∈D'.nums,k∈D.nums:=by
 obtain ⟨k,last,ss,h1,h2,T,rfl⟩:=p
 refine ⟨?_,rfl,rfl,fun j hj=>(Zt ..).subset hj⟩
 have e:AsD (D.take k ss)=(AsD D).eraseIdx k:=pV _ _ _
 rw [e]
 have hk:=(Qa.mp h1).1
 obtain ⟨l',hl'⟩:∃ l',D.ws[k]?=some l':=⟨_,Qb (by have:=L.w; omega)⟩
 have hz:(AsD D)[k]?=some (num,l'):=Jo.mpr ⟨h1,hl'⟩
 obtain ⟨hlt,hel⟩:=Qa.mp hz
 obtain ⟨j,hj⟩:=Qw.mp (pm.mem_iff.mpr (Qr ..))
 unfold AsD at hj
 rw [Jo] at hj
 have:=gK L.m.nd hj.1 h1
 subst this
 have el:l=l':=Option.some.inj (hj.2.symm.trans hl')
 subst el
 exact ((lU hz).trans pm).cons_inv
theorem aBS (L0:LnD D0) (L1:LnD D1) (L2:LnD D2) (M1:Mvd D0 D1) (M2:Mvd D1 D2) (old:∀ k∈D2.nums,k∈D0.nums->k∈D1.nums) (hx:(X.map (·.1)).Nodup) (df:∀ p∈X,∃ a b,lk D0.nums D0.hs p.1=some a/\lk D2.nums D2.hs p.1=some b/\a≠b):(X.length:Int)<=D2.ma - D0.ma:=by
 obtain ⟨m1,o1,_,a1,_⟩:=M1
 obtain ⟨m2,o2,_,a2,_⟩:=M2
 have h:=uR (en:=D0.nums) (eh:=D0.hs) (mn:=D1.nums) (mh:=D1.hs) (fn:=D2.nums) (fh:=D2.hs) L2.m.nd L1.m.nd old L1.h
 rw [o1.len,o2.len] at h
 have:=uQ (m:=iD D0.nums D0.hs D2.nums D2.hs) hx fun k hk=>by
  obtain ⟨p,hp,rfl⟩:=Js.mp hk
  exact (iF L2.m.nd _).mpr (df p hp)
 rw [Qd] at this
 omega
theorem aAc {f g:Int×List Int->Int} {z z':Int} (nd:c.Nodup) (h1:X.map f++[z]=c) (h2:z'::X.map g=c) {p:Int×List Int} (hp:p∈X):f p≠g p:=fun q=>by
 obtain ⟨i,hi⟩:=Qw.mp hp
 have a:c[i]?=some (f p):=by rw [<- h1,Qj (by rw [Qd]; exact (Qa.mp hi).1),Qg,hi]; rfl
 have b:c[i+1]?=some (g p):=by rw [<- h2,Xl,Qg,hi]; rfl
 rw [<- q] at b
 have:=gK nd a b
 omega
theorem uS (L:LnD D) (hs:∀ l∈D.ws,∃ g,l = [g]) (p:xE l t D D'):D'.ml=0/\D'.ma=D.ma:=by
 obtain ⟨hs',m,ss,last,PS,rfl⟩:=p
 obtain ⟨p,nd,ne,rfl,rfl⟩:=PS
 have one:ss.length=1:=by
  match ss,p,nd,ne with
  | [s0],_,_,_=>rfl
  | s0::s1::q,⟨_,_,e1,⟨e2,l1,e3,e4,e5⟩,_⟩,nd,_ =>
   exfalso
   by_cases c1:s1.1 < D.hs.length
   ·rw [Qj c1] at e2
    rw [Qj (by have:=L.h; have:=L.w; omega)] at e3
    obtain ⟨g,rfl⟩:=hs l1 (Qe e3)
    have:=(bM L.m.dl).2 _ _ _ e2 e3
    exact e5 ((Qm.mp e4).trans (Qm.mp this).symm)
   ·have:s1.1=D.hs.length:=by
     have:=(Qa.mp e2).1
     rw [Qh] at this
     have:s1.1 < D.hs.length+1:=this
     omega
    rw [this,Qv (Qi _),Xk] at e2
    have:D.n=s0.2.2:=by simpa using e2
    exact (Je.mp nd).1 (by rw [this]; exact Qr ..)
 exact ⟨by show (ss.length:Int) - 1=0; omega,by show D.ma+((ss.length:Int) - 1)=D.ma; omega⟩
theorem tN (L:LnD D) (hs:∀ l∈D.ws,∃ g,l = [g]) (p:tL num D D'):D'.ml=0/\D'.ma=D.ma:=by
 obtain ⟨k,last,ss,h1,h2,T,rfl⟩:=p
 rcases T with ⟨rfl,_⟩ | ⟨h,ne,p,_,_,_,_⟩
 ·exact ⟨rfl,Int.add_zero _⟩
 ·exfalso
  match ss,p,ne with
  | s0::q,⟨_,⟨e2,l1,e3,e4,e5⟩,_⟩,_ =>
   obtain ⟨g,rfl⟩:=hs l1 (Qe e3)
   have:=(bM L.m.dl).2 _ _ _ e2 e3
   exact e5 ((Qm.mp e4).trans (Qm.mp this).symm)
theorem aAd {p:Int×List Int} {m:Nat} (Ch:Chn c bs B X) (L:LnD D) (hc:∀ g∈c,0<=g/\g < D.n) (hm:X.length=m+1) (hp:X[m]?=some p) (pm:(AsD D).Perm (B++([p]++[(e,[z])]))) (hz:c[m+1]?=some z) (T:tL p.1 D D'):D'.ml=0:=by
 obtain ⟨hdz,cnt⟩:=dY Ch L pm
 have hpA:p∈AsD D:=pm.mem_iff.mpr (Qn _ (Jm _ (Qm.mpr rfl)))
 obtain ⟨hlk,hcc⟩:=Ch.hands L hp hpA
 obtain ⟨lv,hlv⟩:=L.m.lv
 obtain ⟨y,hy⟩:∃ y,c[m]?=some y:=⟨_,Qb (by have:=Ch.len; omega)⟩
 have nyz:y≠z:=fun q=>by rw [q] at hy; have:=gK Ch.nd hy hz; omega
 have ym:=Qe hy
 have zm:=Qe hz
 have cy:=cnt y ym
 have cz:=cnt z zm
 have ly:=hlv.1 y (hc y ym).1 (hc y ym).2
 have lz:=hlv.1 z (hc z zm).1 (hc z zm).2
 rw [if_neg (fun q=>nyz q.symm)] at cy
 rw [if_pos rfl] at cz
 have hxy:hdD D p=y:=by
  rcases hcc with q | q
  ·exact Option.some.inj (q.symm.trans hy)
  ·exfalso
   have ez:hdD D p=z:=Option.some.inj (q.symm.trans hz)
   have le:=(eV L hpA).2.2 lv hlv y ((Ch.x1 m p hp y).mpr (.inl hy))
   rw [Qu,Zy,ez] at cy cz
   rw [ez] at le
   have z1:([z]:List Int).count z=1:=by simp
   have z2:([z]:List Int).count y=0:=Xz.mpr fun q=>nyz (Qm.mp q)
   rw [z1] at cz
   rw [z2] at cy
   omega
 have le1:∀ h:Int,D.hs.count h<=bs+1:=fun h=>by
  by_cases hh:h∈c
  ·rw [cnt h hh,Qu,Zy,hxy]
   by_cases q:z=h
   ·have:([y]:List Int).count h=0:=Xz.mpr fun w=>nyz ((Qm.mp w).symm.trans q.symm)
    rw [if_pos q,this]; omega
   ·rw [if_neg q]
    have:([y]:List Int).count h<=1:=List.count_le_length
    omega
  ·have:D.hs.count h=0:=Xz.mpr fun w=>by
    rw [<- aAa L] at w
    obtain ⟨p',hp',rfl⟩:=Js.mp w
    have h2:=(eV L hp').2.1
    rcases Jq.mp (pm.mem_iff.mp hp') with q | q
    ·obtain ⟨g,hg,e'⟩:=Ch.b1 p' q
     rw [e'] at h2
     exact hh (by rw [Qm.mp h2]; exact hg)
    ·rcases Jq.mp q with q | q
     ·rw [Qm.mp q,hxy] at hh
      exact hh ym
     ·rw [Qm.mp q,hdz] at hh
      exact hh zm
   omega
 obtain ⟨k,last,ss,h1,h2,T,rfl⟩:=T
 have elast:last=y:=by
  have:=iW L.m.nd h1 h2
  rw [hlk] at this
  rw [<- hxy]; exact (Option.some.inj this).symm
 rcases T with ⟨rfl,_⟩ | ⟨h,_,_,_,_,_,gt⟩
 ·rfl
 ·exfalso
  have:=le1 h
  rw [elast,cy,Qu,Zy,hxy] at gt
  have:([y]:List Int).count y=1:=by simp
  omega
theorem oE {Y:List (Int×List Int)} (Ch:Chn c bs B X) (L:LnD D) (pm:(AsD D).Perm (B++(X++[(e,[z])]))) (hall:∀ g,0<=g->g < D.n->g∈c) (hp:(X.map (hdD D)++[z]).Perm c):dX D.n D.hs=List.replicate D.n.toNat ((bs:Int)+1):=by
 unfold dX
 refine Xv fun i=>?_
 rw [Qg,Xr]
 by_cases c1:i < D.n.toNat
 ·rw [cE c1,if_pos c1]
  have hi:=hall (i:Int) (by omega) (by omega)
  have h1:=(dY Ch L pm).2 i hi
  have h2:=hp.count_eq (i:Int)
  rw [Xu,Ch.nd.count,if_pos hi,Jw,Wt] at h2
  show some ((D.hs.count (i:Int):Nat):Int)=_
  rw [h1]
  congr 1
  by_cases q:z=(i:Int)
  ·rw [if_pos (by simp [q])] at h2
   rw [if_pos q]; omega
  ·rw [if_neg (by simp [q])] at h2
   rw [if_neg q]; omega
 ·rw [if_neg c1,Qx.mpr (by rw [aN]; omega)]; rfl
end
theorem szK (n:Nat) (h:n < 1000):n < sizeLine:=Wm h (by decide +kernel)
theorem aK {H:Hp} {a b:Addr} {u:HO} (h1:H a=some u) (h2:H b=none):a≠b:=fun z=>by rw [z,h2] at h1; cases h1
theorem pW {α β:Type} (f:α->β):∀ (l:List α) (k:Nat),(l.map f).eraseIdx k=(l.eraseIdx k).map f
 | [],_=>rfl
 | _::_,0=>rfl
 | x::l,k+1=>by rw [Qu,Xm,Xm,Qu,pW f l k]
theorem Jar.fresh {K:PySem.W.Frag} {H H5:Hp} {t a lp:Addr} {ns:List Int} {N M:Nat} {u:HO} (hJ:Jar K H t a ns N) (hl:H lp=none) (J5:Jar K H5 t a ns M) (nt:t≠lp):Jar K (upd H5 lp u) t a ns M:=by
 obtain ⟨⟨p,q,h1,h2,e5⟩,q5⟩:=J5
 refine ⟨⟨p,q,h1,h2,(aD nt).trans e5⟩,?_⟩
 rcases hJ.2 with (h | ⟨o,h⟩) | h
 ·exact But.seqL But.at (fun z=>by rw [z,hl] at h; cases h) q5
 ·exact But.seqL But.at (fun z=>by rw [z,hl] at h; cases h) q5
 ·exact .inr h
theorem Jar.lst {K:PySem.W.Frag} {H:Hp} {t a:Addr} {ns:List Int} {N:Nat} (h:Jar K H t a ns N):∃ xs,H t=some (.lst xs):=by
 obtain ⟨⟨p,q,_,_,e⟩,_⟩:=h
 exact ⟨_,e⟩
section
variable {P:Program} {w:World} {K:PySem.W.Frag} {mg:Str->Option Value} {base:Heap} {C:Addr}
def lV (K:PySem.W.Frag):Sp:=fun vs H Q _=>∃ (t a p:Addr) (ns:List Int) (N:Nat) (xs:List Int),vs = [.ref t,.ref p]/\Jar K H t a ns N/\N<=700000/\H p=some (.lst (xs.map V.int))/\p≠t/\xs.length<=12 /\
 ∀ (q:Addr) (ys:List Int) H',ys.Perm xs->But t H H'->Jar K H' t a ns (N+12)->H q=none->H' q=some (.lst (ys.map V.int))->Q (.ref q) H'
theorem vR:FnScope ["jar", "some", "left"] ["jar", "some"] (aI kL):=⟨rfl,rfl,rfl,by decide +kernel,rfl,by decide +kernel,by decide +kernel⟩
set_option maxHeartbeats 1000000 in
theorem aAe {f fS:Addr} {fd dS:FuncData} (G:Fn K mg "_law_e_order" kL ["jar", "some"] f fd) (B:Bl mg) (GSc:Fn K mg "_law_e_scoop" kM ["jar", "many"] fS dS) (OSc:FnOk P w K mg base CX0 2 fS dS ["jar", "many"] (jU K)):FnOk P w K mg base CX0 3 f fd ["jar", "some"] (lV K):=by
 refine G.fn.ok vR (fun vs H Q E h=>?_) (fun cdv A outer s H vs Q E hr h=>?_)
 ·obtain ⟨t,a,p,ns,N,xs,rfl,_⟩:=h
  rfl
 ·obtain ⟨t,a,p,ns,N,xs,rfl,hJ,hN,hp,npt,h12,k⟩:=h
  have r2:Room 2 _:=hr
  refine ⟨_,aC (aJ (i:=2) vR.nd rfl (Or.inr rfl) (bL qI rfl B.list kK (aB (pv 1) aE)))
   (aH (aZ (iI (own:=["turn"]) (fr:=[0,2]) (frn:=["jar", "left"]) (cP (aI kL) ["jar", "some", "left"] rfl rfl (by decide +kernel)) rfl (bU rfl B.range (aB (aU aV rfl B.len eL (aB (pv 1) aE)) aE))
    (fun _ _ _ _=>(aR (i:=0) (show (["turn", "jar", "left"]:List Str).Nodup by decide +kernel) rfl (Or.inl rfl))) (fun _ _ _ _=>gU)
    (fun _ _ _ _=>zH (K:=K) rfl PySem.F.plainAttrs_list PySem.F.slot_list_pop PySem.F.type_list_pop sB (pv 2) (aB (cA GSc OSc r2 rfl (aB (pv 1) (aB (aU (iU (K:=K) rfl) rfl B.len eL (aB (pv 2) aE)) aE))) aE))))),?_⟩
  obtain ⟨_,et⟩:=hJ.lst
  refine ⟨_,rfl,p,_,rfl,.inl (SqL.of hp),fun lp hlp=>?_⟩
  dsimp only [aT]
  have s1:=aG.new (o:=.lst (xs.map V.int)) hlp
  have l1:upd H lp (.lst (xs.map V.int)) lp=some (.lst (xs.map V.int)):=aA
  generalize upd H lp (.lst (xs.map V.int))=H1 at s1 l1 ⊢
  have ntl:=aK et hlp
  refine ⟨_,rfl,p,_,rfl,.inl (SqL.of (s1 _ _ hp)),_,rfl,by rw [Qd]; omega,by rw [Qd]; omega,dU (lo:=0) (n:=((xs.map V.int).length:Int).toNat) (fun σ=>∃ v,σ = [v,some (.ref t),some (.ref lp)]) (fun i ys H2=>∃ ls rs:List Int,ys=rs.map V.int/\(rs++ls).Perm xs/\rs.length=i/\H2 lp=some (.lst (ls.map V.int))/\aS t lp lp H1 H2/\Jar K H2 t a ns (N+i)) (iV (by rw [Qd]; omega)) ⟨none,rfl⟩ ⟨xs,[],rfl,List.Perm.refl _,rfl,l1,aS.refl _ _ _ _,hJ.same s1⟩ ?_ ?_ ?_⟩
  ·rintro i ys H2 ⟨ls,rs,rfl,_,h,_⟩
   rw [Qd,h]; exact Qi _
  ·rintro i ys σ H2 hi ⟨v,rfl⟩ ⟨ls,rs,rfl,pm,hrl,l2,b2,J2⟩ hz
   have hi':i < xs.length:=by rw [Qd] at hi; omega
   have hll:=pm.length_eq
   rw [Qh] at hll
   refine cN ?_
   refine ⟨_,rfl,.inl ⟨rfl,_,SqL.of l2⟩,_,rfl,_,rfl,lp,_,rfl,.inl (SqL.of l2),t,a,ns,N+i,_,rfl,J2,by omega,by rw [Qd]; omega,?_,fun r H3 r0 r1 b3 J3=>?_⟩
   ·rw [Qd]
    exact Zk (show ((ls.length:Int)).natAbs<=12 by omega) (by decide +kernel)
   rw [Qd] at r1
   obtain ⟨g,hg⟩:∃ g,ls[r.toNat]?=some g:=⟨_,Qb (by omega)⟩
   have l3:=b3 _ _ ntl.symm l2
   refine ⟨lp,_,r,r.toNat,.int g,rfl,rfl,l3,by omega,by omega,(qF (aBM r0 (by rw [Qd]; omega))).1,by rw [Qg,hg]; rfl,?_⟩
   have el:(ls.map V.int).eraseIdx r.toNat=(ls.eraseIdx r.toNat).map V.int:=pW _ _ _
   rw [el]
   refine ⟨hz,⟨_,rfl⟩,ls.eraseIdx r.toNat,rs++[g],by rw [Jk]; rfl,?_,by rw [Qh,hrl]; rfl,aA,?_,?_⟩
   ·rw [Xs]
    exact ((lU hg).append_left rs).trans pm
   ·exact fun c u h1 h2 h3 hu=>by rw [aD h2]; exact b3 _ _ h1 (b2 _ _ h1 h2 h3 hu)
   ·exact (hJ.fresh hlp J3 ntl).more (by omega)
  ·rintro ys H2 ⟨ls,rs,rfl,pm,hrl,l2,b2,J2⟩ q hq
   rw [Qd] at hrl J2
   have hll:=pm.length_eq
   rw [Qh] at hll
   have e0:ls = []:=Zg.mp (by omega)
   rw [e0,Ya] at pm
   have hq0:H q=none:=by
    cases e:H q with
    | none=>rfl
    | some u =>
     by_cases c1:q=t
     ·obtain ⟨_,et2⟩:=J2.lst
      rw [c1,et2] at hq; cases hq
     ·have c2:q≠lp:=aK e hlp
      rw [b2 _ _ c1 c2 c2 (s1 _ _ e)] at hq; cases hq
   refine k q rs _ pm (fun c u hc hu=>?_) ((J2.same (aG.new hq)).more (by omega)) hq0 aA
   have c2:c≠lp:=aK hu hlp
   exact (aG.new hq) _ _ (b2 _ _ hc c2 c2 (s1 _ _ hu))
end
def Md (H:Hp) (c:Addr):Prop:=(∃ C dx fs,H c=some (.ins C dx fs))∨∃ k,H c=some (.dK k)
theorem aS.far {H H':Hp} {x a b c:Addr} {u:HO} (e:aS x a b H H') (hx:Md H x) (ha:Md H a) (hb:Md H b) (hc:H c=some u) (n1:∀ C dx fs,u≠.ins C dx fs) (n2:∀ k,u≠.dK k):H' c=some u:=by
 have f:∀ y,Md H y->c≠y:=fun y hy z=>by
  rcases hy with ⟨_,_,_,h⟩ | ⟨_,h⟩
  ·rw [z,h] at hc; exact n1 _ _ _ (Option.some.inj hc).symm
  ·rw [z,h] at hc; exact n2 _ (Option.some.inj hc).symm
 exact e c u (f x hx) (f a ha) (f b hb) hc
theorem aS.lst {H H':Hp} {x a b c:Addr} {xs:List V} (e:aS x a b H H') (hx:Md H x) (ha:Md H a) (hb:Md H b) (hc:H c=some (.lst xs)):H' c=some (.lst xs):=e.far hx ha hb hc (fun _ _ _ z=>by cases z) (fun _ z=>by cases z)
theorem aS.tab {H H':Hp} {x a b c:Addr} {q:Str} (e:aS x a b H H') (hx:Md H x) (ha:Md H a) (hb:Md H b) (hc:H c=some (.tab q)):H' c=some (.tab q):=e.far hx ha hb hc (fun _ _ _ z=>by cases z) (fun _ z=>by cases z)
theorem aS.jar {K:PySem.W.Frag} {H H':Hp} {x a b t sa:Addr} {ns:List Int} {N:Nat} (e:aS x a b H H') (hx:Md H x) (ha:Md H a) (hb:Md H b) (J:Jar K H t sa ns N):Jar K H' t sa ns N:=by
 obtain ⟨⟨p,q,h1,h2,h3⟩,h4⟩:=J
 refine ⟨⟨p,q,h1,h2,e.lst hx ha hb h3⟩,?_⟩
 rcases h4 with (h | ⟨o,h⟩) | h
 ·exact .inl (.inl (e.lst hx ha hb h))
 ·exact .inl (.inr ⟨o,e.far hx ha hb h (fun _ _ _ z=>by cases z) (fun _ z=>by cases z)⟩)
 ·exact .inr h
structure Liv (K:PySem.W.Frag) (H:Hp) (C Pt x da dh:Addr) (D:DD):Prop where
 d:DlH K H C x D
 m:DlM D
 pt:H Pt=some (.tab nR)
 ea:D.da=da
 eh:D.dh=dh
theorem vS {l:List Int} {x:Int} (h:x∈l):l[l.idxOf x]?=some x:=by
 have hl:=List.idxOf_lt_length_of_mem h
 rw [Qb hl,List.getElem_idxOf hl]
section
variable {K:PySem.W.Frag} {H H':Hp} {C Pt x da dh:Addr} {D D':DD}
theorem Liv.ln (L:Liv K H C Pt x da dh D):LnD D:=⟨L.m,L.d.hl,L.d.wl⟩
theorem Liv.same (L:Liv K H C Pt x da dh D) (s:aG H H'):Liv K H' C Pt x da dh D:=⟨L.d.same s,L.m,s _ _ L.pt,L.ea,L.eh⟩
theorem Liv.n12 (L:Liv K H C Pt x da dh D):D.nums.length<=12:=by rw [<- L.d.wl]; exact (bF L.m.bk).2.2.1
theorem Liv.mx (L:Liv K H C Pt x da dh D):Md H x/\Md H da/\Md H dh:=⟨.inl ⟨_,_,_,L.d.ins⟩,.inr ⟨_,by rw [<- L.ea]; exact L.d.able⟩,.inr ⟨_,by rw [<- L.eh]; exact L.d.hand⟩⟩
theorem Liv.lst (L:Liv K H C Pt x da dh D) (b:aS x da dh H H') {c:Addr} {xs:List V} (h:H c=some (.lst xs)):H' c=some (.lst xs):=b.lst L.mx.1 L.mx.2.1 L.mx.2.2 h
theorem Liv.jar (L:Liv K H C Pt x da dh D) (b:aS x da dh H H') {t a:Addr} {ns:List Int} {N:Nat} (h:Jar K H t a ns N):Jar K H' t a ns N:=b.jar L.mx.1 L.mx.2.1 L.mx.2.2 h
theorem Liv.put {l:List Int} {t:Addr} {Q:VK} {E:XK} (L:Liv K H C Pt x da dh D) (ht:SqT K H t (l.map V.int)) (hw:cM D.n (dJ l)=true) (h12:D.nums.length < 12) (k:∀ D' H',aS x da dh H H'->Liv K H' C Pt x da dh D'->xE l t D D'->Q (.int D.nx) H'):nV K C Pt [.ref x,.ref t] H Q E:=by
 refine ⟨x,t,D,l,rfl,L.d,L.m,ht,hw,h12,L.pt,fun hs m ss last H' b PS hD' hM'=>?_⟩
 rw [L.ea,L.eh] at b
 exact k (D.put l t hs m) H' b ⟨hD',hM',b.tab L.mx.1 L.mx.2.1 L.mx.2.2 L.pt,L.ea,L.eh⟩ ⟨hs,m,ss,last,PS,rfl⟩
theorem Liv.take {num:Int} {Q:VK} {E:XK} (L:Liv K H C Pt x da dh D) (hm:num∈D.nums) (k:∀ D' H',aS x da dh H H'->Liv K H' C Pt x da dh D'->tL num D D'->Q .non H'):kQ K C [.ref x,.int num] H Q E:=by
 have hi:=vS hm
 obtain ⟨last,hlast⟩:∃ last,D.hs[D.nums.idxOf num]?=some last:=⟨_,Qb (by rw [L.d.hl]; exact (Qa.mp hi).1)⟩
 refine ⟨x,D,num,D.nums.idxOf num,last,rfl,L.d,L.m,hi,hlast,fun ss H' b TK hD' hM'=>?_⟩
 rw [L.ea,L.eh] at b
 exact k (D.take (D.nums.idxOf num) ss) H' b ⟨hD',hM',b.tab L.mx.1 L.mx.2.1 L.mx.2.2 L.pt,L.ea,L.eh⟩ ⟨D.nums.idxOf num,last,ss,hi,hlast,TK,rfl⟩
theorem dZ {num:Int} (T:tL num D D'):(num::D'.nums).Perm D.nums/\(∀ l∈D'.ws,l∈D.ws)/\D'.n=D.n/\D'.nx=D.nx:=by
 obtain ⟨k,last,ss,h1,_,_,rfl⟩:=T
 exact ⟨lU h1,fun l hl=>(Zt ..).subset hl,rfl,rfl⟩
theorem dM {n g:Int} (h0:0<=g) (h1:g < n):cM n (dJ [g])=true:=qZ (by simp) (fun x hx=>by rw [Qm.mp hx]; exact ⟨h0,h1⟩) (by simp)
theorem aBT {n:Int} {dx:Addr} (hn1:1<=n) (hn6:n<=6) (hT:H Pt=some (.tab nR)) (hx:H x=none) (hdx:H dx=none) (ndx:dx≠x) {H3:Hp} (b3:But x (upd (upd H dx (.own x)) x (.ins C dx [])) H3) (hda:upd (upd H dx (.own x)) x (.ins C dx []) da=none) (hdh:upd (upd H dx (.own x)) x (.ins C dx []) dh=none) (hD:DlH K H3 C x (DD.begun n dx da dh)):aG H H3/\H da=none/\H dh=none/\Liv K H3 C Pt x da dh (DD.begun n dx da dh):=by
 have q3:aG H H3:=fun c u hc=>by
  have c1:c≠x:=aK hc hx
  have c2:c≠dx:=aK hc hdx
  exact b3 _ _ c1 (by rw [aD c1,aD c2]; exact hc)
 have hda2:H da=none:=by
  have d1:da≠x:=fun z=>by rw [z,aA] at hda; cases hda
  have d2:da≠dx:=fun z=>by rw [z,aD ndx,aA] at hda; cases hda
  rw [aD d1,aD d2] at hda; exact hda
 have hdh2:H dh=none:=by
  have d1:dh≠x:=fun z=>by rw [z,aA] at hdh; cases hdh
  have d2:dh≠dx:=fun z=>by rw [z,aD ndx,aA] at hdh; cases hdh
  rw [aD d1,aD d2] at hdh; exact hdh
 exact ⟨q3,hda2,hdh2,hD,aAV hn1 hn6,q3 _ _ hT,rfl,rfl⟩
structure Sgl (D:DD) (n:Int):Prop where
 n:D.n=n
 s:∀ l∈D.ws,∃ g,l = [g]
 ml:D.ml=0
 ma:D.ma=0
theorem Sgl.put {n g:Int} {t:Addr} (S:Sgl D n) (L:LnD D) (p:xE [g] t D D'):Sgl D' n/\D'.nums=D.nums++[D.nx]:=by
 obtain ⟨_,e2,_,e4,e5⟩:=tM L p
 obtain ⟨m1,m2⟩:=uS L S.s p
 refine ⟨⟨e2.trans S.n,fun l hl=>?_,m1,m2.trans S.ma⟩,e4⟩
 rw [e5] at hl
 rcases Jq.mp hl with z | z
 ·exact S.s l z
 ·exact ⟨g,Qm.mp z⟩
theorem Sgl.take {n num:Int} (S:Sgl D n) (L:LnD D) (p:tL num D D'):Sgl D' n:=by
 obtain ⟨_,e2,e3,_⟩:=dZ p
 obtain ⟨m1,m2⟩:=tN L S.s p
 exact ⟨e3.trans S.n,fun l hl=>S.s l (e2 l hl),m1,m2.trans S.ma⟩
end
section
variable {P:Program} {w:World} {K:PySem.W.Frag} {mg:Str->Option Value} {base:Heap} {C:Addr}
def oF (K:PySem.W.Frag) (Pt:Addr):Sp:=fun vs H Q _=>∃ (cp:Addr) (c:List Int),vs = [.ref cp]/\H cp=some (.lst (c.map V.int))/\1<=c.length/\c.length<=6/\(∀ g∈c,0<=g/\g < c.length)/\H Pt=some (.tab nR)/\∀ H',aG H H'->Q (.bl true) H'
theorem iG:FnScope ["called", "dealing", "turn", "numbers", "number"] ["called"] (aI jQ):=⟨rfl,rfl,rfl,by decide +kernel,rfl,by decide +kernel,by decide +kernel⟩
set_option maxHeartbeats 2000000 in
theorem xF {f fI fPu fTa fMo Pt:Addr} {fd dI dPu dTa dMo:FuncData} (G:Fn K mg "_law_e_single_right" jQ ["called"] f fd) (T:Dc K C) (B:Bl mg) (MK:Mk K C fI) (hmC:mg "Dealing" = some (.ref C)) (GIn:Mt K C "__init__" kZ ["self", "hands"] fI dI) (OIn:FnOk P w K mg base CX0 3 fI dI ["self", "hands"] (nX K C))
  (GPu:Mt K C "put" sU ["self", "able"] fPu dPu) (OPu:FnOk P w K mg base CX0 3 fPu dPu ["self", "able"] (nV K C Pt)) (GTa:Mt K C "take" lA ["self", "number"] fTa dTa) (OTa:FnOk P w K mg base CX0 3 fTa dTa ["self", "number"] (kQ K C)) (GMo:Mt K C "moved" iB ["self"] fMo dMo) (OMo:FnOk P w K mg base CX0 1 fMo dMo ["self"] (jZ K C)):FnOk P w K mg base CX0 5 f fd ["called"] (oF K Pt):=by
 refine G.fn.ok iG (fun vs H Q E h=>?_) (fun cdv A outer s H vs Q E hr h=>?_)
 ·obtain ⟨cp,c,rfl,_⟩:=h
  rfl
 ·obtain ⟨cp,c,rfl,hcp,hc1,hc6,hcg,hT,k⟩:=h
  have r4:Room 4 _:=hr
  have r3:Room 3 _:=hr.mono (by decide)
  have r1:Room 1 _:=hr.mono (by decide)
  refine ⟨_,aC (aJ (i:=1) iG.nd rfl (Or.inr rfl) (qE MK OIn r4 rfl hmC GIn.bd .nil bD (aB (aU aV rfl B.len eL (aB (pv 0) aE)) aE)))
   (aC (cK PassesOwn.never rfl (bU rfl B.range (aB aF aE)) (aR (i:=2) iG.nd rfl (Or.inl rfl))
    (aC (mK (i:=3) (own:=["hand"]) (fr:=[1]) (frn:=["dealing"]) (cP (aI jQ) ["called", "dealing", "turn", "numbers", "number"] rfl rfl (by decide +kernel)) rfl iG.nd rfl rfl rfl (eX (aM yA (pv 0) (mG qH (pv 0) aAt (jJ aF))))
     (fun _ _ _ _=>(aR (i:=0) (show (["hand", "dealing"]:List Str).Nodup by decide +kernel) rfl (Or.inl rfl))) (fun _ _ _ _=>gU)
     (fun _ _ _ _=>bN (pv 1) T.cl GPu.me OPu r3 GPu.bd .nil bD (aB (cX (aB (pv 0) aE)) aE)))
    (aC (cK PassesOwn.never rfl (eX (pv 3)) (aR (i:=4) iG.nd rfl (Or.inl rfl)) (aH (bT (bN (pv 1) T.cl GTa.me OTa r3 GTa.bd .nil bD (aB (pv 4) aE)))))
    (aH (bT (bN (pv 1) T.cl GPu.me OPu r3 GPu.bd .nil bD (aB (cX (aB (aX bE (pv 0) (aM gO (pv 2) (aU aV rfl B.len eL (aB (pv 0) aE))) (fun _ _=>rfl)) aE)) aE)))))))
   (aH (aZ (jH (aBA hr.u64) (bK (pv 1) T.cl GMo.me OMo r1 GMo.bd .nil bD) (cX (aB aF (aB aF aE))) (bC _))))),?_⟩
  refine ⟨_,rfl,cp,_,rfl,.inl (SqL.of hcp),fun x dx hx hdx ndx=>?_⟩
  rw [Qd]
  refine ⟨x,dx,_,rfl,aA,by omega,by omega,fun da dh H1 b3 hda0 hdh0 hD=>⟨rfl,?_⟩⟩
  obtain ⟨s1,hda,hdh,L1⟩:=aBT (by omega) (by omega) hT hx hdx ndx b3 hda0 hdh0 hD
  dsimp only [aT]
  have S1:Sgl (DD.begun c.length dx da dh) c.length:=⟨rfl,fun l hl=>(Qy hl).elim,rfl,rfl⟩
  have back:∀ {H'},aS x da dh H1 H'->aG H H':=fun b c u hc=>b _ _ (aK hc hx) (aK hc hda) (aK hc hdh) (s1 _ _ hc)
  refine ⟨_,rfl,by decide,by decide,eN (lo:=0) (n:=3) (fun i σ H2=>(∃ v2 v3 v4,σ = [some (.ref cp),some (.ref x),v2,v3,v4])/\aS x da dh H1 H2/\∃ D,Liv K H2 C Pt x da dh D/\Sgl D c.length/\D.nums.length=i) ⟨⟨none,none,none,rfl⟩,aS.refl _ _ _ _,_,L1,S1,rfl⟩ ?_ ?_⟩
  ·rintro i σ H2 hi ⟨⟨v2,v3,v4,rfl⟩,b2,D,L2,S2,hnl⟩
   dsimp only [aT]
   have hcp2:=back b2 _ _ hcp
   refine ⟨_,rfl,_,rfl,1,rfl,cp,_,rfl,SqL.of hcp2,fun sp hsp=>?_⟩
   rw [show (1:Int)=((1:Nat):Int) from rfl,aAx]
   have s3:=aG.new (o:=.lst ((c.map V.int).take 1)) hsp
   have e3:upd H2 sp (.lst ((c.map V.int).take 1)) sp=some (.lst ((c.map V.int).take 1)):=aA
   generalize upd H2 sp (.lst ((c.map V.int).take 1))=H3 at s3 e3 ⊢
   obtain ⟨zs,hzs⟩:∃ zs:List Int,zs=c++c.take 1:=⟨_,rfl⟩
   have ez:c.map V.int++(c.map V.int).take 1=zs.map V.int:=by rw [hzs,Jk,List.map_take]
   have zl:zs.length=c.length+1:=by rw [hzs,Qh,Xe]; omega
   have zg:∀ g∈zs,0<=g/\g < c.length:=fun g hg=>by
    rw [hzs] at hg
    rcases Jq.mp hg with z | z
    ·exact hcg g z
    ·exact hcg g (List.mem_of_mem_take z)
   refine ⟨cp,sp,_,_,rfl,rfl,s3 _ _ hcp2,e3,szK _ (by rw [<- Qh,ez,Qd]; omega) |> Zc,fun q hq=>?_⟩
   rw [ez]
   have s4:=aG.new (o:=.lst (zs.map V.int)) hq
   have e4:upd H3 q (.lst (zs.map V.int)) q=some (.lst (zs.map V.int)):=aA
   generalize upd H3 q (.lst (zs.map V.int))=H4 at s4 e4 ⊢
   have L4:=(L2.same s3).same s4
   refine ⟨q,rfl,⟨_,SqL.of e4⟩,wN (K:=K) (a:=q) (xs:=zs.map V.int) (fun σ=>∃ v,σ = [v,some (.ref x)]) (fun i ys H5=>aS x da dh H4 H5/\∃ (D1:DD) (ms:List Int),ys=ms.map V.int/\ms.length=i/\D1.nums=D.nums++ms/\Liv K H5 C Pt x da dh D1/\Sgl D1 c.length) (iV (by rw [Qd]; omega)) ⟨none,rfl⟩ ⟨aS.refl _ _ _ _,D,[],rfl,rfl,by simp,L4,S2⟩ (fun i ys H5 z=>by obtain ⟨_,_,ms,rfl,h,_⟩:=z; rw [Qd,h]; exact Qi _) (fun i ys H5 z=>SqL.of (L4.lst z.1 e4)) ?_ ?_⟩
   ·rintro j ys σ xv H5 hxv ⟨v,rfl⟩ ⟨b5,D1,ms,rfl,hml,hnn,L5,S5⟩ hz
    rw [Qg] at hxv
    obtain ⟨g,hg,rfl⟩:=Jr.mp hxv
    have hj:=(Qa.mp hg).1
    obtain ⟨g0,g1⟩:=zg g (Qe hg)
    have hl1:D1.nums.length < 12:=by rw [hnn,Qh]; omega
    refine cN ?_
    refine ⟨_,rfl,x,D1.dx,_,rfl,L5.d.ins,rfl,_,rfl,sz1 _,fun tp htp=>?_⟩
    have L6:=L5.same (aG.new (o:=.tup [.int g]) htp)
    refine L6.put (l:=[g]) (SqT.of aA) (dM g0 (by rw [S5.n]; exact g1)) hl1 fun D2 H6 b6 L7 PD=>?_
    obtain ⟨S7,hn7⟩:=S5.put L5.ln PD
    refine ⟨hz,⟨_,rfl⟩,(b5.trans (aS.of (aG.new htp))).trans b6,D2,ms++[D1.nx],by rw [Jk]; rfl,by rw [Qh,hml]; rfl,by rw [hn7,hnn,Xs],L7,S7⟩
   rintro ys H5 ⟨b5,D1,ms,rfl,hml,hnn,L5,S5⟩ np hnp
   dsimp only [aT]
   rw [Qd] at hml
   have s6:=aG.new (o:=.lst (ms.map V.int)) hnp
   have e6:upd H5 np (.lst (ms.map V.int)) np=some (.lst (ms.map V.int)):=aA
   generalize upd H5 np (.lst (ms.map V.int))=H6 at s6 e6 ⊢
   have L6:=L5.same s6
   have b6:aS x da dh H1 H6:=((((b2.trans (aS.of s3)).trans (aS.of s4)).trans b5).trans (aS.of s6))
   have nd1:=L6.m.nd
   rw [hnn] at nd1
   -- all of them taken again
   refine ⟨_,rfl,np,rfl,⟨_,SqL.of e6⟩,eQ (K:=K) (a:=np) (xs:=ms.map V.int) (fun j σ H7=>(∃ v4,σ = [some (.ref cp),some (.ref x),some (.int (0+(i:Int))),some (.ref np),v4])/\aS x da dh H6 H7/\∃ D2:DD,Liv K H7 C Pt x da dh D2/\Sgl D2 c.length/\D2.nums.length+j=D1.nums.length/\∀ k∈ms.drop j,k∈D2.nums) ⟨⟨_,rfl⟩,aS.refl _ _ _ _,D1,L6,S5,rfl,fun k hk=>by rw [hnn]; exact Qn _ (List.mem_of_mem_drop hk)⟩ (fun j σ H7 _ z=>SqL.of (L6.lst z.2.1 e6)) ?_ ?_⟩
   ·rintro j xv σ H7 hxv ⟨⟨v4,rfl⟩,b7,D2,L7,S7,hl7,hm7⟩
    rw [Qg] at hxv
    obtain ⟨g,hg,rfl⟩:=Jr.mp hxv
    dsimp only [aT]
    have hdr:ms.drop j=g::ms.drop (j+1):=by
     obtain ⟨h1,h2⟩:=Qa.mp hg
     rw [Xp h1,h2]
    have ndm:=(Xj.mp nd1).2.1
    have ndd:(ms.drop j).Nodup:=ndm.sublist (We ..)
    rw [hdr] at ndd hm7
    refine ⟨_,rfl,x,D2.dx,_,rfl,L7.d.ins,rfl,_,rfl,?_⟩
    refine L7.take (hm7 g (Qr ..)) fun D3 H8 b8 L8 TD=>?_
    obtain ⟨pm,_,_,_⟩:=dZ TD
    refine ⟨⟨_,rfl⟩,b7.trans b8,D3,L8,S7.take L7.ln TD,?_,fun k hk=>?_⟩
    ·have:=pm.length_eq
     rw [Qz] at this
     omega
    ·have h1:=pm.mem_iff.mpr (hm7 k (Qq _ hk))
     rcases Qs.mp h1 with z | z
     ·exact absurd hk (by rw [z]; exact (Je.mp ndd).1)
     ·exact z
   rintro σ H7 ⟨⟨v4,rfl⟩,b7,D2,L7,S7,hl7,_⟩
   rw [Qd] at hl7
   have hl2:D2.nums.length=i:=by
    have:D1.nums.length=D.nums.length+ms.length:=by rw [hnn,Qh]
    omega
   have b17:=b6.trans b7
   have hcp7:=back b17 _ _ hcp
   have cl0:(0:Int) < c.length:=by omega
   have hm0:=Zr (0+(i:Int)) (show (c.length:Int)≠0 by omega)
   have hm1:=Zl (0+(i:Int)) cl0
   obtain ⟨g,hg⟩:∃ g,c[((0+(i:Int)) % (c.length:Int)).toNat]?=some g:=⟨_,Qb (by omega)⟩
   have hat:atI (c.map V.int) ((0+(i:Int)) % (c.length:Int))=some (.int g):=by
    have:=cH (xs:=c.map V.int) (j:=((0+(i:Int)) % (c.length:Int)).toNat) (v:=.int g) (by rw [Qg,hg]; rfl)
    rwa [Yx hm0] at this
   obtain ⟨g0,g1⟩:=hcg g (Qe hg)
   refine ⟨_,rfl,x,D2.dx,_,rfl,L7.d.ins,rfl,_,rfl,_,rfl,_,rfl,cp,_,rfl,.inl (SqL.of hcp7),0+(i:Int),((c.map V.int).length:Int),rfl,rfl,by rw [Qd]; exact cl0,cp,_,(0+(i:Int)) % ((c.map V.int).length:Int),.int g,rfl,rfl,SqL.of hcp7,by rw [Qd]; exact hat,sz1 _,fun tp htp=>?_⟩
   have L8:=L7.same (aG.new (o:=.tup [.int g]) htp)
   refine L8.put (l:=[g]) (SqT.of aA) (dM g0 (by rw [S7.n]; exact g1)) (by omega) fun D3 H9 b9 L9 PD=>?_
   obtain ⟨S9,hn9⟩:=S7.put L7.ln PD
   exact ⟨⟨_,_,_,rfl⟩,(b17.trans (aS.of (aG.new htp))).trans b9,D3,L9,S9,by rw [hn9,Qh,hl2]; rfl⟩
  ·rintro σ H2 ⟨⟨v2,v3,v4,rfl⟩,b2,D,L2,S2,hnl⟩
   refine ⟨_,rfl,x,D.dx,_,rfl,L2.d.ins,rfl,x,D,rfl,L2.d.ins,fun p hp=>⟨sz2 _ _,fun p2 hp2=>?_⟩⟩
   rw [S2.ml,S2.ma] at hp2 ⊢
   have e1:upd H2 p (.tup [.int 0,.int 0]) p=some (.tup (([0,0]:List Int).map V.int)):=aA
   refine ⟨.tuple (([0,0]:List Int).map .int),.tuple (([0,0]:List Int).map .int),bP.mpr ⟨p,rfl,(aG.new hp2).seqT (SqT.of e1)⟩,bP.mpr ⟨p2,rfl,SqT.of aA⟩,cQ _,cQ _,bR _,bR _,?_⟩
   rw [PySem.SeqAt.eqv_refl _ (SeqAt.canLay_of_shaped (bR _))]
   exact k _ ((back b2).trans ((aG.new hp).trans (aG.new hp2)))
end
theorem aBU {D:DD} (h:DlM D) (h6:D.n≠6):DlM D.came:=by
 obtain ⟨hn1,hn6,hw12,hws⟩:=bF h.bk
 obtain ⟨hdl,hdm⟩:=bM h.dl
 have n6:D.n+1<=6:=by omega
 refine ⟨lN (show 1<=D.n+1 by omega) n6 hw12 fun l hl=>?_,h.dl,h.up,h.few,h.nx,?_⟩
 ·obtain ⟨a,b,c⟩:=bA (hws l hl)
  exact qZ a (fun x hx=>by have:=b x hx; show 0<=x/\x < D.n+1; omega) c
 ·obtain ⟨lv,L1,L2⟩:=h.lv
  have hr:∀ g∈D.hs,0<=g/\g < D.n:=fun g hg=>by
   obtain ⟨i,hi⟩:=Qw.mp hg
   have hl:=Qb (show i < D.ws.length by rw [<- hdl]; exact (Qa.mp hi).1)
   exact (bA (hws _ (Qe hl))).2.1 g (hdm i _ _ hi hl)
  refine ⟨fun x=>if x=D.n then 0 else lv x,fun x h0 h1=>?_,fun w g l q1 q2 t ht=>?_⟩
  ·have h1':x < D.n+1:=h1
   show (if x=D.n then 0 else lv x)<=((D.hs.count x:Nat):Int)/\((D.hs.count x:Nat):Int)<=(if x=D.n then 0 else lv x)+1
   by_cases c:x=D.n
   ·have c0:D.hs.count x=0:=Xz.mpr fun z=>by have:=hr x z; omega
    rw [if_pos c,c0]
    omega
   ·rw [if_neg c]
    exact L1 x h0 (by omega)
  ·have q1':D.hs[w]?=some g:=q1
   have hg:=hr g (Qe q1')
   have ht':=(bA (hws l (Qe q2))).2.1 t ht
   show (if g=D.n then 0 else lv g)<=(if t=D.n then 0 else lv t)
   rw [if_neg (by omega),if_neg (by omega)]
   exact L2 w g l q1 q2 t ht
theorem eW (n:Nat):(cL n).Nodup:=by
 refine Jy.mpr (List.pairwise_iff_getElem.mpr fun i j hi hj lt=>?_)
 rw [aN] at hi hj
 have a:=cE hi
 have b:=cE hj
 rw [Qb (by rw [aN]; exact hi)] at a
 rw [Qb (by rw [aN]; exact hj)] at b
 rw [Option.some.inj a,Option.some.inj b]
 omega
theorem aAY {c:List Int} {k:Nat} {t:Int}:t∈(c.drop k).take 2↔(c[k]?=some t∨c[k+1]?=some t):=by
 constructor
 ·intro h
  obtain ⟨i,hi⟩:=Qw.mp h
  rw [Zm] at hi
  split at hi
  ·rename_i h2
   rw [Yh] at hi
   rcases (show i=0∨i=1 by omega) with rfl | rfl
   ·exact .inl hi
   ·exact .inr hi
  ·cases hi
 ·rintro (h | h)
  ·exact Qe (i:=0) (by rw [Zm,if_pos (by decide),Yh]; exact h)
  ·exact Qe (i:=1) (by rw [Zm,if_pos (by decide),Yh]; exact h)
theorem oG {c ats:List Int} {Y:List (Int×List Int)} {m:Nat} (hc:c.length=m+1) (pa:ats.Perm (cL (m+1))) (hy:Y.length=m+1) (hY:∀ (i:Nat) p at',Y[i]?=some p->ats[i]?=some at'->p.2.Perm ((c.drop at'.toNat).take 2)) :
  ∃ (X:List (Int×List Int)) (e z:Int),Y.Perm (X++[(e,[z])])/\c[m]?=some z/\X.length=m/\(∀ (i:Nat) p,X[i]?=some p->∀ t,t∈p.2↔(c[i]?=some t∨c[i+1]?=some t))/\(∀ (i:Nat) p,X[i]?=some p->lk ats (Y.map (·.1)) i=some p.1)/\lk ats (Y.map (·.1)) m=some e:=by
 have nda:ats.Nodup:=pa.nodup_iff.mpr (eW _)
 have al:ats.length=m+1:=by rw [pa.length_eq,aN]
 obtain ⟨f,hf⟩:∃ f:Int->Int×List Int,∀ a,f a=Y.getD (ats.idxOf a) (0,[]):=⟨_,fun _=>rfl⟩
 have ix:∀ {j:Nat} {a:Int},ats[j]?=some a->ats.idxOf a=j:=fun {j a} h=>by
  have hm:=Qe h
  exact gK nda (vS hm) h
 have eY:Y=ats.map f:=by
  refine Xv fun j=>?_
  rw [Qg]
  cases e:ats[j]? with
  | none =>
   have:=Qx.mp e
   rw [Qx.mpr (by omega)]; rfl
  | some a =>
   have hj:=(Qa.mp e).1
   show Y[j]?=some (f a)
   rw [hf,ix e,Jt,Qb (by omega)]; rfl
 have key:∀ i:Nat,i < m+1->∃ j:Nat,ats[j]?=some (i:Int)/\Y[j]?=some (f i)/\lk ats (Y.map (·.1)) i=some (f i).1/\(f i).2.Perm ((c.drop i).take 2):=fun i hi=>by
  have hm:(i:Int)∈ats:=pa.mem_iff.mpr (Qe (cE hi))
  obtain ⟨j,hj⟩:=Qw.mp hm
  have hyj:Y[j]?=some (f i):=by
   have:(ats.map f)[j]?=some (f i):=by rw [Qg,hj]; rfl
   rwa [<- eY] at this
  refine ⟨j,hj,hyj,iW nda hj (by rw [Qg,hyj]; rfl),?_⟩
  have:=hY j _ _ hyj hj
  rwa [Xh] at this
 have up:(cL (m+1)).map f=(cL m).map f++[f m]:=by
  refine Xv fun i=>?_
  rw [Qg]
  by_cases c1:i < m
  ·rw [cE (by omega),Qj (by rw [Qd,aN]; exact c1),Qg,cE c1]
  ·rw [Qv (by rw [Qd,aN]; omega),Qd,aN]
   by_cases c2:i=m
   ·rw [c2,cE (by omega),Xk]; rfl
   ·rw [Qx.mpr (by rw [aN]; omega),Qx.mpr (by show 1<=_; omega)]; rfl
 obtain ⟨z,hz⟩:∃ z,c[m]?=some z:=⟨_,Qb (by omega)⟩
 obtain ⟨_,_,_,lkm,pm2⟩:=key m (by omega)
 have e2:(f m).2 = [z]:=by
  have:(c.drop m).take 2 = [z]:=by
   obtain ⟨h1,h2⟩:=Qa.mp hz
   rw [Xp h1,h2,Wi (by omega)]; rfl
  rw [this] at pm2
  exact List.perm_singleton.mp pm2
 have em:f m=((f m).1,[z]):=by rw [<- e2]
 have hX:∀ {i:Nat} {p:Int×List Int},((cL m).map f)[i]?=some p->i < m/\p=f i:=fun {i p} h=>by
  have hi:=(Qa.mp h).1
  rw [Qd,aN] at hi
  rw [Qg,cE hi] at h
  exact ⟨hi,(Option.some.inj h).symm⟩
 refine ⟨(cL m).map f,(f m).1,z,?_,hz,by rw [Qd,aN],fun i p h t=>?_,fun i p h=>?_,lkm⟩
 ·rw [<- em,<- up]
  have:=pa.map f
  rwa [<- eY] at this
 ·obtain ⟨hi,rfl⟩:=hX h
  obtain ⟨_,_,_,_,q⟩:=key i (by omega)
  rw [q.mem_iff]; exact aAY
 ·obtain ⟨hi,rfl⟩:=hX h
  exact (key i (by omega)).choose_spec.2.2.1
theorem pX {c:List Int} {g:Int} (nd:c.Nodup) (hg:g∈c):∀ k:Nat,(List.replicate k c).flatten.count g=k
 | 0=>rfl
 | k+1=>by rw [Xd,Zb,Xu,pX nd hg k,nd.count,if_pos hg]; omega
theorem oH {bl:List Int} {g:Int}:∀ {bl:List Int},(bl.map fun g=>[g]).count [g]=bl.count g
 | []=>rfl
 | x::bl=>by rw [Qu,Jw,Jw,oH (bl:=bl)]; simp
section
variable {c:List Int} {bs:Nat} {B X:List (Int×List Int)} {D D0 D1 D2:DD} {e z z':Int} {t:Addr}
theorem rM (L:LnD D):(AsD D).map (·.1)=D.nums:=List.map_fst_zip (by rw [L.w]; exact Qi _)
theorem aAZ {R:List (Int×List Int)} (L:LnD D) (pm:(AsD D).Perm (B++(X++R))):(X.map (·.1)).Nodup:=by
 have h:=(pm.map (·.1)).nodup_iff.mp (by rw [rM L]; exact L.m.nd)
 rw [Jk,Jk] at h
 exact (Xj.mp (Xj.mp h).2.1).1
theorem tO (Ch:Chn c bs B X) (L0:LnD D0) (L1:LnD D1) (L2:LnD D2) (hc:∀ g∈c,0<=g/\g < D0.n) (T:tL e D0 D1) (P:xE [z'] t D1 D2) (pm:(AsD D0).Perm (B++(X++[(e,[z])]))) (hz:(c[X.length]?=some z/\c[0]?=some z')∨(c[0]?=some z/\c[X.length]?=some z')) :
  (AsD D2).Perm (B++(X++[(D1.nx,[z'])]))/\(X.length:Int)<=D2.ma - D0.ma/\0<=D2.ml/\D2.ml<=D2.n - 1/\D2.n=D0.n/\D0.ma<=D1.ma:=by
 have pm':(AsD D0).Perm ((e,[z])::(B++X)):=pm.trans (by
  rw [<- Xs]
  exact Wo)
 obtain ⟨p1,n1,x1,sub⟩:=aAb L0 T pm'
 obtain ⟨a2,n2,x2,nums2,_⟩:=tM L1 P
 have pm2:(AsD D2).Perm (B++(X++[(D1.nx,[z'])])):=by
  rw [a2,<- Xs]
  exact p1.append_right _
 have M1:=vQ L0 T
 have M2:=oC L1 L2.m P
 have n02:D2.n=D0.n:=n2.trans n1
 have hc2:∀ g∈c,0<=g/\g < D2.n:=by rw [n02]; exact hc
 have nx:=aAZ L0 pm
 have old:∀ k∈D2.nums,k∈D0.nums->k∈D1.nums:=fun k h1 h2=>by
  rw [nums2] at h1
  rcases Jq.mp h1 with q | q
  ·exact q
  ·have:=(L0.m.few k h2).2
   have:=Qm.mp q
   omega
 have hA0:∀ p∈X,p∈AsD D0:=fun p hp=>pm.mem_iff.mpr (Qn _ (Jm _ hp))
 have hA2:∀ p∈X,p∈AsD D2:=fun p hp=>pm2.mem_iff.mpr (Qn _ (Jm _ hp))
 have df:∀ p∈X,hdD D0 p≠hdD D2 p:=fun p hp=>by
  rcases hz with ⟨h1,h2⟩ | ⟨h1,h2⟩
  ·exact aAc Ch.nd (iP Ch L0 hc pm h1) (jE Ch L2 hc2 pm2 h2) hp
  ·exact (aAc Ch.nd (iP Ch L2 hc2 pm2 h2) (jE Ch L0 hc pm h1) hp).symm
 have mv:=aBS L0 L1 L2 M1 M2 old nx fun p hp=>⟨_,_,(eV L0 (hA0 p hp)).1,(eV L2 (hA2 p hp)).1,df p hp⟩
 obtain ⟨m1,_,_,m1a,_⟩:=M1
 obtain ⟨m,_,m2,_,m3⟩:=M2
 exact ⟨pm2,mv,by omega,by omega,n02,by omega⟩
end
theorem aC3 (c:List Int) (k:Nat) (h:k<=c.length):rY (c.map V.int) (some (k:Int)) (some ((k:Int)+2))=((c.drop k).take 2).map V.int:=by
 rw [show (k:Int)+2=((k+2:Nat):Int) by omega]
 unfold rY
 rw [HT.sIx_nat,HT.sIx_nat,Qd,List.map_take,List.map_drop,Wk h]
 by_cases h2:k+2<=c.length
 ·rw [Wk h2,show k+2 - k=2 by omega]
 ·rw [Nat.min_eq_right (by omega),Xb (by rw [Zh,Qd]; omega),Xb (by rw [Zh,Qd]; omega)]
def aCA (K:PySem.W.Frag) (C Pt:Addr) (ic ix inn ia:Nat):TS:=(aA9 (rR inn) (rR ia) (xS C "put" (nV K C Pt) [] E0 (rR ix) (rW (tCB (fun xs H_1 Q=>∃ p ys,xs = [V.ref p]/\((SqL K H_1 p ys/\∀ (l:Addr),H_1 l=none->Q (V.ref l) (upd H_1 l (HO.tup ys)))∨SqT K H_1 p ys/\Q (V.ref p) H_1)) (rW (tCB (fun xs H_1 Q=>∃ (a:Addr) (ns:List Int),xs = [V.ref a]/\(SqL K H_1 a (List.map V.int ns)∨SqT K H_1 a (List.map V.int ns))/\ns.length < 64/\∀ (p:Addr) (ms:List Int),H_1 p=none->ms.Perm ns->List.Pairwise (fun x1 x2=>x1<=x2) ms->Q (V.ref p) (upd H_1 p (HO.lst (List.map V.int ms)))) (rW (tSl (aCi K) (rR ic) (xU (rR ia)) (xU (tOp (rI0 fun i j=>V.int (i+j)) (rR ia) (tC (V.int 2))))) wE)) wE)) wE)))
def gG (x da dh np:Addr) (H H':Hp):Prop:=∀ c u,c≠x->c≠da->c≠dh->c≠np->H c=some u->H' c=some u
structure Lnk (K:PySem.W.Frag) (H:Hp) (C Pt x da dh np:Addr) (n:Int) (c ats:List Int) (B:List (Int×List Int)) (j:Nat) (D:DD) (Y:List (Int×List Int)):Prop where
 l:Liv K H C Pt x da dh D
 n:D.n=n
 as:AsD D=B++Y
 yl:Y.length=j
 nd:H np=some (.dK (kvH (ats.take j) (Y.map (·.1))))
 ma:0<=D.ma
 ps:∀ (i:Nat) p a,Y[i]?=some p->ats[i]?=some a->p.2.Perm ((c.drop a.toNat).take 2)
theorem aAf {c l:List Int} {k:Nat} {n:Int} (nd:c.Nodup) (hc:∀ g∈c,0<=g/\g < n) (hk:k < c.length) (pm:l.Perm ((c.drop k).take 2)) (srt:l.Pairwise (·<=·)):cM n (dJ l)=true:=by
 have ndl:l.Nodup:=pm.nodup_iff.mpr (nd.sublist ((Wc ..).trans (We ..)))
 refine qZ (fun z=>?_) (fun x hx=>hc x (((Wc ..).trans (We ..)).subset (pm.mem_iff.mp hx))) ?_
 ·have:=pm.length_eq
  rw [z,Xe,Zh,List.length_nil] at this
  omega
 ·have:=srt.and (Jy.mp ndl)
  exact this.imp fun h=>by omega
theorem vT {K:PySem.W.Frag} {H:Hp} {C Pt x da dh np cp:Addr} {n:Int} {c ats:List Int} {B Y:List (Int×List Int)} {j:Nat} {D:DD} {E:Ends} {σ:St} {ic ix inn ia k:Nat} (I:Lnk K H C Pt x da dh np n c ats B j D Y)
  (hic:σ[ic]?=some (some (.ref cp))) (hix:σ[ix]?=some (some (.ref x))) (hin:σ[inn]?=some (some (.ref np))) (hia:σ[ia]?=some (some (.int k))) (hcp:H cp=some (.lst (c.map V.int))) (nd:c.Nodup) (hc:∀ g∈c,0<=g/\g < n) (hk:k < c.length) (nda:ats.Nodup) (hat:ats[j]?=some (k:Int)) (hB:B.length+j < 12) (n1:np≠x) (n2:np≠da) (n3:np≠dh)
  (nx:∀ D' Y' H',gG x da dh np H H'->Lnk K H' C Pt x da dh np n c ats B (j+1) D' Y'->E.nx σ H'):aCA K C Pt ic ix inn ia E σ H:=by
 have hnl:D.nums.length=B.length+j:=by
  have h1:(AsD D).length=B.length+j:=by rw [I.as,Qh,I.yl]
  unfold AsD at h1
  rw [Xn,I.l.d.wl,Zq] at h1
  exact h1
 refine ⟨_,hix,x,D.dx,_,rfl,I.l.d.ins,rfl,_,hic,_,hia,k,rfl,_,hia,k,2,rfl,rfl,_,rfl,cp,_,rfl,SqL.of hcp,fun p1 hp1=>?_⟩
 rw [aC3 c k (by omega)]
 have s1:=aG.new (o:=.lst (((c.drop k).take 2).map V.int)) hp1
 have e1:upd H p1 (.lst (((c.drop k).take 2).map V.int)) p1=some (.lst (((c.drop k).take 2).map V.int)):=aA
 generalize upd H p1 (.lst (((c.drop k).take 2).map V.int))=H1 at s1 e1 ⊢
 refine ⟨p1,(c.drop k).take 2,rfl,.inl (SqL.of e1),by rw [Xe]; omega,fun p2 ms hp2 pm srt=>?_⟩
 have s2:=s1.trans (aG.new (o:=.lst (ms.map V.int)) hp2)
 have e2:upd H1 p2 (.lst (ms.map V.int)) p2=some (.lst (ms.map V.int)):=aA
 generalize upd H1 p2 (.lst (ms.map V.int))=H2 at s2 e2 ⊢
 refine ⟨p2,_,rfl,.inl ⟨SqL.of e2,fun tp htp=>?_⟩⟩
 have s3:=s2.trans (aG.new (o:=.tup (ms.map V.int)) htp)
 have e3:upd H2 tp (.tup (ms.map V.int)) tp=some (.tup (ms.map V.int)):=aA
 generalize upd H2 tp (.tup (ms.map V.int))=H3 at s3 e3 ⊢
 have L3:=I.l.same s3
 refine L3.put (l:=ms) (SqT.of e3) (aAf nd (by rw [I.n]; exact hc) hk pm srt) (by omega) fun D4 H4 b4 L4 PD=>?_
 obtain ⟨a4,n4,_,_,_⟩:=tM I.l.ln PD
 have e4:H4 np=some (.dK (kvH (ats.take j) (Y.map (·.1)))):=b4 _ _ n1 n2 n3 (s3 _ _ I.nd)
 have jl:j < ats.length:=(Qa.mp hat).1
 have tl:(Y.map (·.1)).length=(ats.take j).length:=by rw [Qd,I.yl,Xe]; omega
 have new:(k:Int)∉ats.take j:=fun hm=>by
  obtain ⟨i,hi⟩:=Qw.mp hm
  rw [Zm] at hi
  split at hi
  ·have:=gK nda hi hat
   omega
  ·cases hi
 have en:dF (kvH (ats.take j) (Y.map (·.1))) (.inl (k:Int)) (.int D.nx)=kvH (ats.take (j+1)) ((Y++[(D.nx,ms)]).map (·.1)):=by
  rw [Zj,hat,Jk]
  show _=kvH (ats.take j++[(k:Int)]) (Y.map (·.1)++[D.nx])
  rw [tG tl]
  exact jM _ (iN new)
 refine ⟨_,hin,_,hia,np,_,rfl,lF.k (k:=.inl (k:Int)) e4 (szK _ (by rw [lT tl,Xe]; omega)),?_⟩
 rw [en]
 have b5:But np H4 (upd H4 np (.dK (kvH (ats.take (j+1)) ((Y++[(D.nx,ms)]).map (·.1))))):=But.at
 have e5:upd H4 np (.dK (kvH (ats.take (j+1)) ((Y++[(D.nx,ms)]).map (·.1)))) np=some (.dK (kvH (ats.take (j+1)) ((Y++[(D.nx,ms)]).map (·.1)))):=aA
 generalize upd H4 np (.dK (kvH (ats.take (j+1)) ((Y++[(D.nx,ms)]).map (·.1))))=H5 at b5 e5 ⊢
 have nta:∀ {q u},H4 q=some u->(∀ r,u≠.dK r)->H5 q=some u:=fun hq hu=>b5 _ _ (fun z=>by rw [z,e4] at hq; exact hu _ (Option.some.inj hq).symm) hq
 have L5:Liv K H5 C Pt x da dh D4:=⟨⟨b5 _ _ n1.symm L4.d.ins,b5 _ _ (by rw [L4.ea]; exact n2.symm) L4.d.able,b5 _ _ (by rw [L4.eh]; exact n3.symm) L4.d.hand,L4.d.tl,L4.d.wl,L4.d.hl,fun i t l q1 q2=>b5.seqTd e4 (L4.d.tup i t l q1 q2),L4.d.ne⟩,L4.m,nta L4.pt (fun _ z=>by cases z),L4.ea,L4.eh⟩
 refine nx D4 (Y++[(D.nx,ms)]) H5 (fun q u q1 q2 q3 q4 hq=>b5 _ _ q4 (b4 _ _ q1 q2 q3 (s3 _ _ hq))) ⟨L5,n4.trans I.n,by rw [a4,I.as,Xs],by rw [Qh,I.yl]; rfl,e5,by obtain ⟨_,_,_,q,_⟩:=oC I.l.ln L4.m PD; have:=I.ma; omega,fun i p a hp ha=>?_⟩
 by_cases ci:i < j
 ·rw [Qj (by rw [I.yl]; exact ci)] at hp
  exact I.ps i p a hp ha
 ·have hi:i=j:=by
   have:=(Qa.mp hp).1
   rw [Qh,I.yl] at this
   have:i < j+1:=this
   omega
  rw [hi,Qv (by rw [I.yl]; exact Qi _),I.yl,Xk] at hp
  have ep:(D.nx,ms)=p:=by simpa using hp
  rw [hi,hat] at ha
  rw [<- ep,<- Option.some.inj ha,Xh]
  exact pm
theorem gG.far {H H':Hp} {x a b d c:Addr} {u:HO} (e:gG x a b d H H') (hx:Md H x) (ha:Md H a) (hb:Md H b) (hd:Md H d) (hc:H c=some u) (n1:∀ C dx fs,u≠.ins C dx fs) (n2:∀ k,u≠.dK k):H' c=some u:=by
 have f:∀ y,Md H y->c≠y:=fun y hy z=>by
  rcases hy with ⟨_,_,_,h⟩ | ⟨_,h⟩
  ·rw [z,h] at hc; exact n1 _ _ _ (Option.some.inj hc).symm
  ·rw [z,h] at hc; exact n2 _ (Option.some.inj hc).symm
 exact e c u (f x hx) (f a ha) (f b hb) (f d hd) hc
theorem gG.lst {H H':Hp} {x a b d c:Addr} {xs:List V} (e:gG x a b d H H') (hx:Md H x) (ha:Md H a) (hb:Md H b) (hd:Md H d) (hc:H c=some (.lst xs)):H' c=some (.lst xs):=e.far hx ha hb hd hc (fun _ _ _ z=>by cases z) (fun _ z=>by cases z)
theorem gG.jar {K:PySem.W.Frag} {H H':Hp} {x a b d t sa:Addr} {ns:List Int} {N:Nat} (e:gG x a b d H H') (hx:Md H x) (ha:Md H a) (hb:Md H b) (hd:Md H d) (J:Jar K H t sa ns N):Jar K H' t sa ns N:=by
 obtain ⟨⟨p,q,h1,h2,h3⟩,h4⟩:=J
 refine ⟨⟨p,q,h1,h2,e.lst hx ha hb hd h3⟩,?_⟩
 rcases h4 with (h | ⟨o,h⟩) | h
 ·exact .inl (.inl (e.lst hx ha hb hd h))
 ·exact .inl (.inr ⟨o,e.far hx ha hb hd h (fun _ _ _ z=>by cases z) (fun _ z=>by cases z)⟩)
 ·exact .inr h
theorem gG.trans {x a b d:Addr} {H1 H2 H3:Hp} (h1:gG x a b d H1 H2) (h2:gG x a b d H2 H3):gG x a b d H1 H3:=fun c u q1 q2 q3 q4 h=>h2 c u q1 q2 q3 q4 (h1 c u q1 q2 q3 q4 h)
theorem gG.refl {x a b d:Addr} {H:Hp}:gG x a b d H H:=fun _ _ _ _ _ _ h=>h
theorem gG.of {x a b d:Addr} {H H':Hp} (s:aG H H'):gG x a b d H H':=fun c u _ _ _ _ h=>s c u h
theorem kB {n:Nat} {g:Int} (h:g∈cL n):∃ k:Nat,g=k/\k < n:=by
 obtain ⟨i,hi⟩:=Qw.mp h
 have hl:=(Qa.mp hi).1
 rw [aN] at hl
 rw [cE hl] at hi
 exact ⟨i,(Option.some.inj hi).symm,hl⟩
theorem tP {c bl:List Int} {bs m:Nat} {B X:List (Int×List Int)} (nd:c.Nodup) (hc:c.length=m+1) (hX:X.length=m) (hB:B.map (·.2)=bl.map fun g=>[g]) (hbl:∀ g∈bl,g∈c) (hbc:∀ g∈c,bl.count g=bs) (x1:∀ (i:Nat) p,X[i]?=some p->∀ t,t∈p.2↔(c[i]?=some t∨c[i+1]?=some t)):Chn c bs B X:=by
 refine ⟨nd,by rw [hc,hX],fun p hp=>?_,fun g hg=>?_,x1⟩
 ·have:p.2∈bl.map fun g=>[g]:=by rw [<- hB]; exact Js.mpr ⟨p,hp,rfl⟩
  obtain ⟨g,hg,e⟩:=Js.mp this
  exact ⟨g,hbl g hg,e.symm⟩
 ·rw [hB,oH (bl:=[])]; exact hbc g hg
theorem aA0 (n:Nat):(List.replicate n true).all id=true:=by
 rw [Xg]; intro x hx; rw [(Wy.mp hx).2]; rfl
theorem DlH.but {K:PySem.W.Frag} {H H':Hp} {C x t:Addr} {D:DD} {xs:List V} (h:DlH K H C x D) (e:H t=some (.lst xs)) (b:But t H H'):DlH K H' C x D :=
 ⟨b _ _ (fun z=>by have:=h.ins; rw [z,e] at this; cases this) h.ins,b _ _ (fun z=>by have:=h.able; rw [z,e] at this; cases this) h.able,b _ _ (fun z=>by have:=h.hand; rw [z,e] at this; cases this) h.hand,h.tl,h.wl,h.hl,fun i t' l q1 q2=>b.seqT e (h.tup i t' l q1 q2),h.ne⟩
def Tst (c:TT) (σ:St) (H:Hp) (b:Bool):Prop:=∀ Q':Bool->Hp->Prop,(∀ H',aG H H'->Q' b H')->c σ H Q'
theorem xG {t u:TT} {σ:St} {H:Hp} {b c:Bool} (ht:Tst t σ H b) (hu:b=false->∀ H1,aG H H1->Tst u σ H1 c):Tst (tOr t u) σ H (b || c):=fun Q' q=>ht _ fun H1 s1=>by
 cases b with
 | false=>exact uE (hu rfl H1 s1 _ fun H2 s2=>q H2 (s1.trans s2))
 | true=>exact oN (q H1 s1)
theorem aCB {t:TT} {σ:St} {H:Hp} {b:Bool} (ht:Tst t σ H b):Tst (aB1 t) σ H (!b):=fun Q' q=>ht _ q
theorem oI {c:TT} {t u:TS} {D:Ends} {σ:St} {H:Hp} (b:Bool) (hc:Tst c σ H b) (h1:b=true->∀ H',aG H H'->t D σ H') (h2:b=false->∀ H',aG H H'->u D σ H'):aAk c t u D σ H:=hc _ fun H' s=>by
 cases b with
 | true=>exact oN (h1 rfl H' s)
 | false=>exact uE (h2 rfl H' s)
theorem aAg {xs:List V} {v:V} (h:xs[xs.length - 1]?=some v):atI xs (-1)=some v:=by
 have hl:0 < xs.length:=by
  have:=(Qa.mp h).1
  omega
 obtain ⟨ys,rfl⟩:∃ ys,xs=ys++[v]:=by
  refine ⟨xs.dropLast,?_⟩
  have hne:xs≠[]:=List.ne_nil_of_length_pos hl
  have e:=Ys hne
  rw [List.getLast_eq_getElem] at e
  obtain ⟨h1,h2⟩:=Qa.mp h
  rw [h2] at e; exact e.symm
 exact xV ys v
theorem aBV {c:TT} {t u:TS} {D:Ends} {σ:St} {H:Hp} (R:Hp->Prop) (body:(∀ H',R H'->u D σ H')->aAk c t iQ { D with nx:=fun σ' H'=>u D σ' H' } σ H) (gL:∀ H',R H'->u D σ H'):aB4 (aAk c t iQ) u D σ H:=body gL
section
variable {P:Program} {w:World} {K:PySem.W.Frag} {mg:Str->Option Value} {base:Heap} {C:Addr}
def oJ (K:PySem.W.Frag) (Pt:Addr):Sp:=fun vs H Q _=>∃ (t a cp:Addr) (ns:List Int) (N bs m:Nat) (c:List Int),vs = [.ref t,.ref cp,.int bs]/\Jar K H t a ns N/\N<=600000/\H cp=some (.lst (c.map V.int))/\cp≠t/\c.Perm (cL (m+1))/\1<=m/\m<=5/\(m+1)*(bs+1)<=12/\H Pt=some (.tab nR)/\∀ H',But t H H'->Jar K H' t a ns (N+20)->Q (.bl true) H'
theorem bQ:FnScope ["jar", "called", "base", "hands", "dealing", "hand", "numbers", "at", "last", "often", "turn", "first", "by_last", "total", "where"] ["jar", "called", "base"] (aI jP):=⟨rfl,rfl,rfl,by decide +kernel,rfl,by decide +kernel,by decide +kernel⟩
set_option maxHeartbeats 4000000 in
theorem xH {f fI fPu fTa fMo fCo fDe fOr fSc fSi Pt:Addr} {fd dI dPu dTa dMo dCo dDe dOr dSc dSi:FuncData} (G:Fn K mg "_law_e_unseen_right" jP ["jar", "called", "base"] f fd) (T:Dc K C) (B:Bl mg) (MK:Mk K C fI) (hmC:mg "Dealing" = some (.ref C)) (GIn:Mt K C "__init__" kZ ["self", "hands"] fI dI) (OIn:FnOk P w K mg base CX0 3 fI dI ["self", "hands"] (nX K C))
  (GPu:Mt K C "put" sU ["self", "able"] fPu dPu) (OPu:FnOk P w K mg base CX0 3 fPu dPu ["self", "able"] (nV K C Pt)) (GTa:Mt K C "take" lA ["self", "number"] fTa dTa) (OTa:FnOk P w K mg base CX0 3 fTa dTa ["self", "number"] (kQ K C)) (GMo:Mt K C "moved" iB ["self"] fMo dMo) (OMo:FnOk P w K mg base CX0 1 fMo dMo ["self"] (jZ K C)) (GCo:Mt K C "come" pK ["self"] fCo dCo) (OCo:FnOk P w K mg base CX0 2 fCo dCo ["self"] (rJ K C)) (GDe:Mt K C "deal" mX ["self"] fDe dDe) (ODe:FnOk P w K mg base CX0 1 fDe dDe ["self"] (lS K C))
  (GSc:Fn K mg "_law_e_scoop" kM ["jar", "many"] fSc dSc) (OSc:FnOk P w K mg base CX0 2 fSc dSc ["jar", "many"] (jU K)) (GOr:Fn K mg "_law_e_order" kL ["jar", "some"] fOr dOr) (OOr:FnOk P w K mg base CX0 3 fOr dOr ["jar", "some"] (lV K)) (GSi:Fn K mg "_law_e_single_right" jQ ["called"] fSi dSi) (OSi:FnOk P w K mg base CX0 5 fSi dSi ["called"] (oF K Pt)):FnOk P w K mg base CX0 6 f fd ["jar", "called", "base"] (oJ K Pt):=by
 refine G.fn.ok bQ (fun vs H Q E h=>?_) (fun cdv A outer s H vs Q E hr h=>?_)
 ·obtain ⟨t,a,cp,ns,N,bs,m,c,rfl,_⟩:=h
  rfl
 ·obtain ⟨t,a,cp,ns,N,bs,m,c,rfl,hJ,hN,hcp,nct,hcu,hm1,hm5,h12,hT,k⟩:=h
  have hu:=fP hr
  have r5:Room 5 _:=hr
  have r4:Room 4 _:=hr.mono (by decide)
  have r3:Room 3 _:=hr.mono (by decide)
  have r2:Room 2 _:=hr.mono (by decide)
  have r1:Room 1 _:=hr.mono (by decide)
  refine ⟨_,aC (aJ (i:=3) bQ.nd rfl (Or.inl rfl) (aU aV rfl B.len eL (aB (pv 1) aE)))
   (aC (aJ (i:=4) bQ.nd rfl (Or.inl rfl) (qE MK OIn r4 rfl hmC GIn.bd .nil bD (aB (pv 3) aE)))
   (aC (cK PassesOwn.never rfl (eX (aM aBy (pv 1) (pv 2))) (aR (i:=5) bQ.nd rfl (Or.inl rfl)) (aH (bT (bN (pv 4) T.cl GPu.me OPu r3 GPu.bd .nil bD (aB (cX (aB (pv 5) aE)) aE)))))
   (aC (aJ (i:=6) bQ.nd rfl (Or.inr rfl) gZ)
   (aC (cK PassesOwn.never rfl (eX (cA GOr OOr r3 rfl (aB (pv 0) (aB (bL (fM rfl) rfl B.list kK (aB (bL gW rfl B.range qU (aB (pv 3) aE)) aE)) aE)))) (aR (i:=7) bQ.nd rfl (Or.inl rfl)) (aH (gE hu (pv 6) (pv 7) (bN (pv 4) T.cl GPu.me OPu r3 GPu.bd .nil bD (aB (bL fJ rfl B.tuple iJ (aB (aU kW rfl B.sorted sT (aB (mG qH (pv 1) (jJ (pv 7)) (jJ (aM bY (pv 7) aF))) aE)) aE)) aE)) rfl)))
   (aC (aJ (i:=8) bQ.nd rfl (Or.inl rfl) (cI hu (pv 6) (aM cV (pv 3) aF) (fun _ _=>rfl)))
   (aC (aJ (i:=9) bQ.nd rfl (Or.inl rfl) (aM bY aF (cA GSc OSc r2 rfl (aB (pv 0) (aB aF aE)))))
   (aC (cK PassesOwn.never rfl (bU rfl B.range (aB (pv 9) aE)) (aR (i:=10) bQ.nd rfl (Or.inl rfl)) (aC (bT (bN (pv 4) T.cl GTa.me OTa r3 GTa.bd .nil bD (aB (pv 8) aE)))
   (aC (bT (bN (pv 4) T.cl GTa.me OTa r3 GTa.bd .nil bD (aB (bN (pv 4) T.cl GPu.me OPu r3 GPu.bd .nil bD (aB (cX (aB (aX bE (pv 1) aF (fun _ _=>rfl)) aE)) aE)) aE)))
   (aC (aJ (i:=8) bQ.nd rfl (Or.inl rfl) (bN (pv 4) T.cl GPu.me OPu r3 GPu.bd .nil bD (aB (cX (aB (aX bE (pv 1) (rT lX aF) (fun _ _=>rfl)) aE)) aE)))
   (aC (bT (bN (pv 4) T.cl GTa.me OTa r3 GTa.bd .nil bD (aB (pv 8) aE)))
   (aC (aJ (i:=11) bQ.nd rfl (Or.inl rfl) (bN (pv 4) T.cl GPu.me OPu r3 GPu.bd .nil bD (aB (cX (aB (aX bE (pv 1) aF (fun _ _=>rfl)) aE)) aE)))
   (aC (bT (bN (pv 4) T.cl GTa.me OTa r3 GTa.bd .nil bD (aB (pv 11) aE)))
   (aH (aJ (i:=8) bQ.nd rfl (Or.inl rfl) (bN (pv 4) T.cl GPu.me OPu r3 GPu.bd .nil bD (aB (cX (aB (aX bE (pv 1) (rT lX aF) (fun _ _=>rfl)) aE)) aE)))))))))))
   (aC (cG (aY lY (pv 3) aF (bC _)) (aH (bT (bK (pv 4) T.cl GCo.me OCo r2 GCo.bd .nil bD))) bI)
   (aC (qC (bK (pv 4) T.cl GMo.me OMo r1 GMo.bd .nil bD) (lW rfl (cC (aR (i:=12) bQ.nd rfl (Or.inl rfl)) (cC (aR (i:=13) bQ.nd rfl (Or.inl rfl)) jF))))
   (aC (cG (PW.pt (gI (aY uZ (pv 12) (aM cV (pv 3) aF) (bC _)) (gI (PW.pt (xK (aY lY (pv 3) aF (bC _)) (uT (aY jG (pv 12) aF (bC _))))) (fG (aY lY (pv 13) (aM cW (aM cW aF (pv 9)) (aM cV (pv 3) aF)) (bC _)))))) (aH (aZ gH)) bI)
   (aC (aJ (i:=14) bQ.nd rfl (Or.inr rfl) (bK (pv 4) T.cl GDe.me ODe r1 GDe.bd .nil bD))
   (aC (cG (PW.pt (gI (iZ (gB (aU (yB rfl) rfl B.all aCx (aB (iI (own:=["at"]) (fr:=[14,6,1]) (frn:=["where", "numbers", "called"]) (cP (aI jP) ["jar", "called", "base", "hands", "dealing", "hand", "numbers", "at", "last", "often", "turn", "first", "by_last", "total", "where"] rfl rfl (by decide +kernel)) rfl (bU rfl B.range (aB (aM cV (pv 3) aF) aE)) (fun _ _ _ _=>(aR (i:=0) (show (["at", "where", "numbers", "called"]:List Str).Nodup by decide +kernel) rfl (Or.inl rfl))) (fun _ _ _ _=>gU) (fun _ _ _ _=>jH oW (cI hu (pv 1) (cI hu (pv 2) (pv 0) (fun _ _=>rfl)) (fun _ _=>rfl)) (aX (mR (K:=K) rfl) (pv 3) (pv 0) (fun _ _=>rfl)) (bC _))) aE)))) (fG (aY jG (cI hu (pv 14) (pv 8) (fun _ _=>rfl)) (aX bE (pv 1) (rT lX aF) (fun _ _=>rfl)) (bC _))))) (aH (aZ gH)) bI)
   (aC (cK PassesOwn.never rfl (bU rfl B.range (aB (aM cV (pv 3) aF) aE)) (aR (i:=7) bQ.nd rfl (Or.inl rfl)) (aH (bT (bN (pv 4) T.cl GTa.me OTa r3 GTa.bd .nil bD (aB (cI hu (pv 6) (pv 7) (fun _ _=>rfl)) aE)))))
   (aH (aZ (tR (jH oW (aX cB (bK (pv 4) T.cl GMo.me OMo r1 GMo.bd .nil bD) aF (fun _ _=>rfl)) aF (bC _)) (tQ (cA GSi OSi r5 rfl (aB (pv 1) aE))))))))))))))))))),?_⟩
  have hcl:c.length=m+1:=by rw [hcu.length_eq,aN]
  have hnd:c.Nodup:=hcu.nodup_iff.mpr (eW _)
  have hcg:∀ g∈c,0<=g/\g < ((m+1:Nat):Int):=fun g hg=>by
   obtain ⟨i,rfl,hi⟩:=kB (hcu.mem_iff.mp hg)
   omega
  obtain ⟨_,et⟩:=hJ.lst
  have hbs:bs<=5:=by
   have:=Yp (bs+1) (show 2<=m+1 by omega)
   omega
  refine ⟨_,rfl,cp,_,rfl,.inl (SqL.of hcp),?_⟩
  rw [Qd,hcl]
  dsimp only [aT]
  refine ⟨_,rfl,fun x dx hx hdx ndx=>?_⟩
  refine ⟨x,dx,_,rfl,aA,by omega,by omega,fun da dh H1 b3 hda0 hdh0 hD=>⟨rfl,?_⟩⟩
  obtain ⟨s1,hda,hdh,L1⟩:=aBT (by omega) (by omega) hT hx hdx ndx b3 hda0 hdh0 hD
  clear b3 hda0 hdh0 hD hdx ndx
  dsimp only [aT]
  -- the works of one hand each
  refine ⟨_,rfl,_,rfl,cp,bs,_,rfl,rfl,s1 _ _ hcp,by omega,by omega,szK _ (by rw [Qd,hcl,Xh]; exact Zk (Ja (Nat.mul_le_mul_left _ (Yt _)) h12) (by decide)) |> Zc,fun q0 hq0=>?_⟩
  obtain ⟨bl,hbl⟩:∃ bl:List Int,bl=(List.replicate bs c).flatten:=⟨_,rfl⟩
  have ebl:(List.replicate (bs:Int).toNat (c.map V.int)).flatten=bl.map V.int:=by rw [hbl,List.map_flatten,List.map_replicate,Xh]
  rw [ebl]
  have bll:bl.length=bs*(m+1):=by rw [hbl,lI,hcl]
  have blm:∀ g∈bl,g∈c:=fun g hg=>by
   rw [hbl] at hg
   obtain ⟨l,hl,h2⟩:=List.mem_flatten.mp hg
   rw [(Wy.mp hl).2] at h2
   exact h2
  have blc:∀ g∈c,bl.count g=bs:=fun g hg=>by rw [hbl]; exact pX hnd hg bs
  have h12':bs*(m+1)+(m+1)<=12:=by rw [<- Yl,Wj]; exact h12
  have s2:=aG.new (o:=.lst (bl.map V.int)) hq0
  have e2:upd H1 q0 (.lst (bl.map V.int)) q0=some (.lst (bl.map V.int)):=aA
  generalize upd H1 q0 (.lst (bl.map V.int))=H2 at s2 e2 ⊢
  have L2:=L1.same s2
  have back:∀ {H'},aS x da dh H2 H'->aG H H':=fun b c u hc=>b _ _ (aK hc hx) (aK hc hda) (aK hc hdh) (s2 _ _ (s1 _ _ hc))
  refine ⟨q0,rfl,⟨_,SqL.of e2⟩,eQ (K:=K) (a:=q0) (xs:=bl.map V.int) (fun j σ H3=>(∃ v5,σ = [some (.ref t),some (.ref cp),some (.int bs),some (.int ((m+1:Nat):Int)),some (.ref x),v5,none,none,none,none,none,none,none,none,none])/\aS x da dh H2 H3/\∃ D,Liv K H3 C Pt x da dh D/\D.n=((m+1:Nat):Int)/\0<=D.ma/\(AsD D).map (·.2)=(bl.take j).map fun g=>[g]) ⟨⟨none,rfl⟩,aS.refl _ _ _ _,_,L2,rfl,Zx _,rfl⟩ (fun j σ H3 _ z=>SqL.of (L2.lst z.2.1 e2)) ?_ ?_⟩
  ·rintro j xv σ H3 hxv ⟨⟨v5,rfl⟩,b3,D,L3,hn3,hma3,as3⟩
   rw [Qg] at hxv
   obtain ⟨g,hg,rfl⟩:=Jr.mp hxv
   dsimp only [aT]
   have hj:=(Qa.mp hg).1
   obtain ⟨g0,g1⟩:=hcg g (blm g (Qe hg))
   have hl3:D.nums.length=j:=by
    have h1:=congrArg Zw as3
    rw [Qd,Qd,Xe] at h1
    unfold AsD at h1
    rw [Xn,L3.d.wl,Zq] at h1
    omega
   refine ⟨_,rfl,x,D.dx,_,rfl,L3.d.ins,rfl,_,rfl,sz1 _,fun tp htp=>?_⟩
   have L4:=L3.same (aG.new (o:=.tup [.int g]) htp)
   refine L4.put (l:=[g]) (SqT.of aA) (dM g0 (by rw [hn3]; exact g1)) (by omega) fun D4 H4 b4 L5 PD=>?_
   obtain ⟨a4,n4,_,_,_⟩:=tM L3.ln PD
   obtain ⟨_,_,_,ma4,_⟩:=oC L3.ln L5.m PD
   refine ⟨⟨_,rfl⟩,(b3.trans (aS.of (aG.new htp))).trans b4,D4,L5,n4.trans hn3,by omega,?_⟩
   rw [a4,Jk,as3,Zj,hg,Jk]; rfl
  rintro σ H3 ⟨⟨v5,rfl⟩,b3,D3,L3,hn3,hma3,as3⟩
  rw [Qd,Xy] at as3
  obtain ⟨Bs,hBs⟩:∃ Bs,Bs=AsD D3:=⟨_,rfl⟩
  rw [<- hBs] at as3
  have Bl:Bs.length=bs*(m+1):=by
   have h1:=congrArg Zw as3
   rw [Qd,Qd] at h1
   omega
  intro np hnp
  dsimp only [aT]
  have s4:=aG.new (o:=.dK []) hnp
  have e4:upd H3 np (.dK []) np=some (.dK []):=aA
  have nx:=aK L3.d.ins hnp
  have na:=aK L3.d.able hnp
  have nh:=aK L3.d.hand hnp
  rw [L3.ea] at na
  rw [L3.eh] at nh
  have hnp0:H np=none:=by
   cases e:H np with
   | none=>rfl
   | some u=>rw [back b3 _ _ e] at hnp; cases hnp
  generalize upd H3 np (.dK [])=H4 at s4 e4 ⊢
  have J4:Jar K H4 t a ns N:=(hJ.same (back b3)).same s4
  -- the row,in a drawn order
  refine ⟨_,rfl,_,rfl,_,rfl,fun rp hrp=>⟨rp,m+1,rfl,aA,by omega,fun lp hlp=>?_⟩⟩
  have s5:=(aG.new (o:=.rng 0 ((m+1:Nat):Int)) hrp).trans (aG.new (o:=.lst ((cL (m+1)).map V.int)) hlp)
  have e5:upd (upd H4 rp (.rng 0 ((m+1:Nat):Int))) lp (.lst ((cL (m+1)).map V.int)) lp=some (.lst ((cL (m+1)).map V.int)):=aA
  have nlt:lp≠t:=by
   obtain ⟨_,et4⟩:=J4.lst
   exact (aK ((aG.new (o:=.rng 0 ((m+1:Nat):Int)) hrp) _ _ et4) hlp).symm
  generalize upd (upd H4 rp (.rng 0 ((m+1:Nat):Int))) lp (.lst ((cL (m+1)).map V.int))=H5 at s5 e5 ⊢
  refine ⟨t,a,lp,ns,N,cL (m+1),rfl,J4.same s5,by omega,e5,nlt,by rw [aN]; omega,fun oq ats H6 pa b6 J6 hoq eoq=>?_⟩
  obtain ⟨_,et5⟩:=(J4.same s5).lst
  obtain ⟨xs4,et4⟩:=J4.lst
  have L4:=L3.same s4
  have k6:∀ {c u},H4 c=some u->(∀ xs,u≠.lst xs)->H6 c=some u:=fun hc hu=>b6 _ _ (fun z=>by rw [z,et4] at hc; exact hu _ (Option.some.inj hc).symm) (s5 _ _ hc)
  have L6:Liv K H6 C Pt x da dh D3:=⟨(L4.d.same s5).but (s5 _ _ et4) b6,L4.m,k6 L4.pt (fun _ z=>by cases z),L4.ea,L4.eh⟩
  have en6:=k6 e4 (fun _ z=>by cases z)
  have ecp6:=b6 _ _ nct (s5 _ _ (s4 _ _ (back b3 _ _ hcp)))
  have nda:ats.Nodup:=pa.nodup_iff.mpr (eW _)
  have atl:ats.length=m+1:=by rw [pa.length_eq,aN]
  have I0:Lnk K H6 C Pt x da dh np ((m+1:Nat):Int) c ats Bs 0 D3 []:=⟨L6,hn3,by rw [hBs,Ya],rfl,en6,hma3,fun i p a h=>by simp at h⟩
  have mnp:Md H6 np:=.inr ⟨_,en6⟩
  refine ⟨oq,rfl,⟨_,SqL.of eoq⟩,eQ (K:=K) (a:=oq) (xs:=ats.map V.int) (fun j σ H7=>(∃ v7,σ = [some (.ref t),some (.ref cp),some (.int bs),some (.int ((m+1:Nat):Int)),some (.ref x),v5,some (.ref np),v7,none,none,none,none,none,none,none])/\gG x da dh np H6 H7/\∃ D Y,Lnk K H7 C Pt x da dh np ((m+1:Nat):Int) c ats Bs j D Y) ⟨⟨none,rfl⟩,gG.refl,_,_,I0⟩ (fun j σ H7 _ z=>SqL.of (z.2.1.lst L6.mx.1 L6.mx.2.1 L6.mx.2.2 mnp eoq)) ?_ ?_⟩
  ·rintro j xv σ H7 hxv ⟨⟨v7,rfl⟩,b7,D,Y,I7⟩
   rw [Qg] at hxv
   obtain ⟨g,hg,rfl⟩:=Jr.mp hxv
   obtain ⟨kk,rfl,hkk⟩:=kB (pa.mem_iff.mp (Qe hg))
   dsimp only [aT]
   have hj:=(Qa.mp hg).1
   exact vT (ic:=1) (ix:=4) (inn:=6) (ia:=7) I7 rfl rfl rfl rfl (b7.lst L6.mx.1 L6.mx.2.1 L6.mx.2.2 mnp ecp6) hnd hcg (by omega) nda hg (by omega) nx.symm na.symm nh.symm fun D' Y' H' b' I'=>⟨⟨_,rfl⟩,b7.trans b',D',Y',I'⟩
  rintro σ H7 ⟨⟨v7,rfl⟩,b7,D7,Y,I7⟩
  rw [Qd,atl] at I7
  obtain ⟨X,en,z,pmY,hz,hXl,x1,lkX,lke⟩:=oG hcl pa I7.yl I7.ps
  have Ch:Chn c bs Bs X:=tP hnd hcl hXl as3 blm blc x1
  have pm7:(AsD D7).Perm (Bs++(X++[(en,[z])])):=by rw [I7.as]; exact pmY.append_left _
  have ecp7:=b7.lst L6.mx.1 L6.mx.2.1 L6.mx.2.2 mnp ecp6
  have J7:=b7.jar L6.mx.1 L6.mx.2.1 L6.mx.2.2 mnp J6
  obtain ⟨kn,hkn⟩:∃ kn,kn=kvH (ats.take (m+1)) (Y.map (·.1)):=⟨_,rfl⟩
  have enp7:=I7.nd
  rw [<- hkn] at enp7
  rw [Xb (by omega)] at hkn
  have vX:∀ (i:Nat) p,X[i]?=some p->bJ kn (.inl (i:Int))=some (.int p.1):=fun i p h=>by rw [hkn,gF,lkX i p h]; rfl
  have ve:bJ kn (.inl (m:Int))=some (.int en):=by rw [hkn,gF,lke]; rfl
  have L7:=I7.l
  have hn7:=I7.n
  have hma7:=I7.ma
  obtain ⟨z0,hz0⟩:∃ z0,c[0]?=some z0:=⟨_,Qb (by omega)⟩
  have bt7:But t H H7:=fun q u hq hu=>by
   have h3:=s5 _ _ (s4 _ _ (back b3 _ _ hu))
   exact b7 _ _ (aK hu hx) (aK hu hda) (aK hu hdh) (aK hu hnp0) (b6 _ _ hq h3)
  clear I7 pmY lkX lke hkn x1 b7 en6 ecp6 I0 k6 L6 mnp eoq hoq J6 b6 pa et4 xs4 J4 et5 s5 e5 e4 s4 b3 as3 L3 L4 e2 s2 L2 back
  -- the last one's number
  refine ⟨_,rfl,_,rfl,((m+1:Nat):Int),1,rfl,rfl,np,_,rfl,.inl ⟨kn,.inl (((m+1:Nat):Int) - 1),.inl enp7,rfl,by rw [show ((m+1:Nat):Int) - 1=(m:Int) by omega]; exact ve.symm⟩,?_⟩
  dsimp only [aT]
  refine ⟨_,rfl,t,a,ns,N+12,3,rfl,J7,by omega,by decide,by decide,fun r H8 r0 r1 b8 J8=>⟨1,r,rfl,rfl,?_⟩⟩
  dsimp only [aT]
  obtain ⟨xs7,et7⟩:=J7.lst
  have k8:∀ {c u},H7 c=some u->(∀ xs,u≠.lst xs)->H8 c=some u:=fun hc hu=>b8 _ _ (fun z=>by rw [z,et7] at hc; exact hu _ (Option.some.inj hc).symm) hc
  have L8:Liv K H8 C Pt x da dh D7:=⟨L7.d.but et7 b8,L7.m,k8 L7.pt (fun _ z=>by cases z),L7.ea,L7.eh⟩
  have ecp8:=b8 _ _ nct ecp7
  have enp8:=k8 enp7 (fun _ z=>by cases z)
  have bt8:=bt7.trans b8
  clear k8 et7 J7 L7 ecp7 enp7 b8 bt7
  have lenD:∀ {D:DD} {e' z':Int} {R:List (Int×List Int)},LnD D->(AsD D).Perm (Bs++(R++[(e',[z'])]))->D.nums.length=bs*(m+1)+R.length+1:=fun {D e' z' R} L pm=>by
   have h1:=pm.length_eq
   rw [Qh,Qh,Bl] at h1
   unfold AsD at h1
   rw [Xn,L.w,Zq] at h1
   rw [h1]; rfl
  have memD:∀ {D:DD} {e' z':Int} {R:List (Int×List Int)},LnD D->(AsD D).Perm (Bs++(R++[(e',[z'])]))->e'∈D.nums:=fun {D e' z' R} L pm=>by
   rw [<- rM L]
   exact Js.mpr ⟨(e',[z']),pm.mem_iff.mpr (Qn _ (Qn _ (Qm.mpr rfl))),rfl⟩
  have hzX:c[X.length]?=some z:=by rw [hXl]; exact hz
  obtain ⟨z00,z01⟩:=hcg z0 (Qe hz0)
  obtain ⟨zz0,zz1⟩:=hcg z (Qe hz)
  have at0:atI (c.map V.int) 0=some (.int z0):=cH (j:=0) (by rw [Qg,hz0]; rfl)
  have atm:atI (c.map V.int) (-1)=some (.int z):=aAg (by rw [Qd,hcl,Qg]; show (c[m]?).map _=_; rw [hz]; rfl)
  -- the row swings
  refine ⟨_,rfl,1+r,rfl,by omega,by omega,eN (lo:=0) (n:=(1+r).toNat) (fun i σ H9=>∃ (ln:Int) (v10 v11:Option V) (D:DD),σ = [some (.ref t),some (.ref cp),some (.int bs),some (.int ((m+1:Nat):Int)),some (.ref x),v5,some (.ref np),v7,some (.int ln),some (.int (1+r)),v10,v11,none,none,none]/\aS x da dh H8 H9/\Liv K H9 C Pt x da dh D/\D.n=((m+1:Nat):Int)/\(AsD D).Perm (Bs++(X++[(ln,[z])]))/\4*(i:Int)*m<=D.ma/\(0 < i->0<=D.ml/\D.ml<=D.n - 1)) ⟨en,none,none,D7,rfl,aS.refl _ _ _ _,L8,hn7,pm7,by omega,fun h=>absurd h (Jn _)⟩ ?_ ?_⟩
  ·rintro i σ H9 hi ⟨ln,v10,v11,D,rfl,b9,L9,hn9,pm9,hma9,_⟩
   dsimp only [aT]
   have hc9:∀ g∈c,0<=g/\g < D.n:=by rw [hn9]; exact hcg
   have ec:∀ {H'},aS x da dh H8 H'->H' cp=some (.lst (c.map V.int)):=fun b=>L8.lst b ecp8
   have lD:=lenD L9.ln pm9
   -- out and in
   refine ⟨_,rfl,x,D.dx,_,rfl,L9.d.ins,rfl,_,rfl,L9.take (memD L9.ln pm9) fun D1 Ha ba La T1=>?_⟩
   have b1:=b9.trans ba
   obtain ⟨pmn1,_,n1,_⟩:=dZ T1
   have l1:=pmn1.length_eq
   rw [Qz] at l1
   refine ⟨_,rfl,x,D1.dx,_,rfl,La.d.ins,rfl,_,rfl,x,D1.dx,_,rfl,La.d.ins,rfl,_,rfl,cp,_,0,.int z0,rfl,rfl,SqL.of (ec b1),at0,sz1 _,fun tp htp=>?_⟩
   have La':=La.same (aG.new (o:=.tup [.int z0]) htp)
   refine La'.put (l:=[z0]) (SqT.of aA) (dM z00 (by rw [n1,hn9]; exact z01)) (by omega) fun D2 Hb bb Lb P2=>?_
   have b2:=(b1.trans (aS.of (aG.new htp))).trans bb
   obtain ⟨pm2,m2,_,_,n2,m2'⟩:=tO Ch L9.ln La.ln Lb.ln hc9 T1 P2 pm9 (.inl ⟨hzX,hz0⟩)
   have hc2:∀ g∈c,0<=g/\g < D2.n:=by rw [n2]; exact hc9
   have l2:=lenD Lb.ln pm2
   refine Lb.take (memD Lb.ln pm2) fun D3 Hc bc Lc T3=>?_
   have b3:=b2.trans bc
   obtain ⟨pmn3,_,n3,_⟩:=dZ T3
   have l3:=pmn3.length_eq
   rw [Qz] at l3
   refine ⟨_,rfl,x,D3.dx,_,rfl,Lc.d.ins,rfl,_,rfl,1,rfl,cp,_,-1,.int z,rfl,rfl,SqL.of (ec b3),atm,sz1 _,fun tp2 htp2=>?_⟩
   have Lc':=Lc.same (aG.new (o:=.tup [.int z]) htp2)
   refine Lc'.put (l:=[z]) (SqT.of aA) (dM zz0 (by rw [n3,n2,hn9]; exact zz1)) (by omega) fun D4 Hd bd Ld P4=>?_
   dsimp only [aT]
   have b4:=(b3.trans (aS.of (aG.new htp2))).trans bd
   obtain ⟨pm4,m4,_,_,n4,m4'⟩:=tO Ch Lb.ln Lc.ln Ld.ln hc2 T3 P4 pm2 (.inr ⟨hz0,hzX⟩)
   have hc4:∀ g∈c,0<=g/\g < D4.n:=by rw [n4]; exact hc2
   have l4:=lenD Ld.ln pm4
   refine ⟨_,rfl,x,D4.dx,_,rfl,Ld.d.ins,rfl,_,rfl,Ld.take (memD Ld.ln pm4) fun D5 He be Le T5=>?_⟩
   have b5:=b4.trans be
   obtain ⟨pmn5,_,n5,_⟩:=dZ T5
   have l5:=pmn5.length_eq
   rw [Qz] at l5
   refine ⟨_,rfl,x,D5.dx,_,rfl,Le.d.ins,rfl,_,rfl,cp,_,0,.int z0,rfl,rfl,SqL.of (ec b5),at0,sz1 _,fun tp3 htp3=>?_⟩
   have Le':=Le.same (aG.new (o:=.tup [.int z0]) htp3)
   refine Le'.put (l:=[z0]) (SqT.of aA) (dM z00 (by rw [n5,n4,n2,hn9]; exact z01)) (by omega) fun D6 Hf bf Lf P6=>?_
   dsimp only [aT]
   have b6:=(b5.trans (aS.of (aG.new htp3))).trans bf
   obtain ⟨pm6,m6,_,_,n6,m6'⟩:=tO Ch Ld.ln Le.ln Lf.ln hc4 T5 P6 pm4 (.inl ⟨hzX,hz0⟩)
   have hc6:∀ g∈c,0<=g/\g < D6.n:=by rw [n6]; exact hc4
   have l6:=lenD Lf.ln pm6
   refine ⟨_,rfl,x,D6.dx,_,rfl,Lf.d.ins,rfl,_,rfl,Lf.take (memD Lf.ln pm6) fun D7' Hg bg Lg T7=>?_⟩
   have b7:=b6.trans bg
   obtain ⟨pmn7,_,n7,_⟩:=dZ T7
   have l7:=pmn7.length_eq
   rw [Qz] at l7
   refine ⟨_,rfl,x,D7'.dx,_,rfl,Lg.d.ins,rfl,_,rfl,1,rfl,cp,_,-1,.int z,rfl,rfl,SqL.of (ec b7),atm,sz1 _,fun tp4 htp4=>?_⟩
   have Lg':=Lg.same (aG.new (o:=.tup [.int z]) htp4)
   refine Lg'.put (l:=[z]) (SqT.of aA) (dM zz0 (by rw [n7,n6,n4,n2,hn9]; exact zz1)) (by omega) fun D8 Hh bh Lh P8=>?_
   dsimp only [aT]
   have b8':=(b7.trans (aS.of (aG.new htp4))).trans bh
   obtain ⟨pm8,m8,ml8,ml8',n8,m8'⟩:=tO Ch Lf.ln Lg.ln Lh.ln hc6 T7 P8 pm6 (.inr ⟨hz0,hzX⟩)
   refine ⟨D7'.nx,_,_,D8,rfl,b8',Lh,by rw [n8,n6,n4,n2,hn9],pm8,?_,fun _=>⟨ml8,ml8'⟩⟩
   rw [hXl] at m2 m4 m6 m8
   have e:4*((i+1:Nat):Int)*m=4*(i:Int)*m+4*m:=by
    rw [show ((i+1:Nat):Int)=(i:Int)+1 by omega,Int.mul_add,Int.add_mul]; omega
   rw [e]; omega
  rintro σ H9 ⟨ln,v10,v11,D9,rfl,b9,L9,hn9,pm9,hma9,hml9⟩
  have ofe:(((1+r).toNat:Nat):Int)=1+r:=by omega
  rw [ofe] at hma9
  obtain ⟨ml0,ml1⟩:=hml9 (by omega)
  rw [hn9] at ml1
  -- one hand more,where there is room
  dsimp only
  refine aBV (fun H'=>∃ D,aS x da dh H8 H'/\Liv K H' C Pt x da dh D/\((m+1:Nat):Int)<=D.n/\(AsD D).Perm (Bs++(X++[(ln,[z])]))/\4*(1+r)*m<=D.ma/\D.ml<=((m+1:Nat):Int) - 1/\(((m+1:Nat):Int) < 6->D.ml=0)) (fun gL=>?_) ?_
  ·refine ⟨_,rfl,_,_,rfl,rfl,_,rfl,?_⟩
   by_cases c6:((m+1:Nat):Int) < 6
   ·refine zN (decide_eq_true c6) ?_
    have h6:D9.n≠6:=by omega
    refine ⟨_,rfl,x,D9.dx,_,rfl,L9.d.ins,rfl,x,D9,rfl,L9.d.ins,h6,?_⟩
    have nax:D9.da≠x:=fun z=>by have:=L9.d.able; rw [z,L9.d.ins] at this; cases this
    have nhx:D9.dh≠x:=fun z=>by have:=L9.d.hand; rw [z,L9.d.ins] at this; cases this
    have b:aS x D9.da D9.dh H9 (upd H9 x (.ins C D9.dx D9.came.flds)):=aS.x
    have b':aS x da dh H9 (upd H9 x (.ins C D9.dx D9.came.flds)):=aS.x
    exact gL _ ⟨D9.came,b9.trans b',⟨⟨aA,(aD nax).trans L9.d.able,(aD nhx).trans L9.d.hand,L9.d.tl,L9.d.wl,L9.d.hl,fun i t l q1 q2=>b.seqT L9.d.ins L9.d.able L9.d.hand (L9.d.tup i t l q1 q2),L9.d.ne⟩,aBU L9.m h6,b'.tab L9.mx.1 L9.mx.2.1 L9.mx.2.2 L9.pt,L9.ea,L9.eh⟩,by show _<=D9.n+1; omega,pm9,hma9,by show (0:Int)<=_; omega,fun _=>rfl⟩
   ·exact jV (decide_eq_false c6) (gL _ ⟨D9,b9,L9,by omega,pm9,hma9,ml1,fun h=>absurd h c6⟩)
  rintro Ha ⟨Da,ba,La,hna,pma,hmaa,mla,mla0⟩
  clear hml9 ml0 ml1 hma9 pm9 hn9 L9 b9
  have hca:∀ g∈c,0<=g/\g < Da.n:=fun g hg=>by have:=hcg g hg; omega
  have fl:=iP Ch La.ln hca pma hzX
  refine ⟨_,rfl,x,Da.dx,_,rfl,La.d.ins,rfl,x,Da,rfl,La.d.ins,fun mp hmp=>⟨mp,_,rfl,SqT.of aA,rfl,_,_,rfl,_,_,rfl,rfl,?_⟩⟩
  have sb:=aG.new (o:=.tup [.int Da.ml,.int Da.ma]) hmp
  generalize upd Ha mp (.tup [.int Da.ml,.int Da.ma])=Hb at sb ⊢
  dsimp only [aT]
  refine oI false (xG (b:=false) (c:=false) (fun Q' q'=>⟨_,rfl,_,rfl,((m+1:Nat):Int),1,rfl,rfl,_,_,rfl,rfl,false,by show V.bl (decide (((m+1:Nat):Int) - 1 < Da.ml))=_; rw [decide_eq_false (by omega)],q' _ (aG.refl _)⟩) (fun _ H1 s1=>xG (b:=false) (c:=false) (fun Q' q'=>⟨_,rfl,_,_,rfl,rfl,_,rfl,?_⟩) (fun _ H2 s2=>fun Q' q'=>⟨_,rfl,_,rfl,4,1+r,rfl,rfl,.inl ⟨by decide,by decide⟩,_,rfl,((m+1:Nat):Int),1,rfl,rfl,_,_,rfl,rfl,.inr ⟨by omega,by omega⟩,_,_,rfl,rfl,false,?_,q' _ (aG.refl _)⟩))) (fun hb=>by cases hb) (fun _ Hc sc=>?_)
  ·by_cases c6:((m+1:Nat):Int) < 6
   ·refine zN (decide_eq_true c6) ⟨_,rfl,rfl,false,by rw [mla0 c6]; simp,q' _ (aG.refl _)⟩
   ·exact jV (decide_eq_false c6) (q' _ (aG.refl _))
  ·show V.bl (decide (Da.ma < 4*(1+r)*(((m+1:Nat):Int) - 1)))=_
   rw [show ((m+1:Nat):Int) - 1=(m:Int) by omega,decide_eq_false (by omega)]
  dsimp only [iQ]
  have sac:=sb.trans sc
  have Lc:=La.same sac
  have bc:=ba.trans (aS.of sac)
  refine ⟨_,rfl,x,Da.dx,_,rfl,Lc.d.ins,rfl,x,Da,rfl,Lc.d,fun wp hwp=>?_⟩
  dsimp only [aT]
  have sd:=aG.new (o:=.dK (kvH Da.nums Da.hs)) hwp
  have ew:upd Hc wp (.dK (kvH Da.nums Da.hs)) wp=some (.dK (kvH Da.nums Da.hs)):=aA
  generalize upd Hc wp (.dK (kvH Da.nums Da.hs))=Hd at sd ew ⊢
  have Ld:=Lc.same sd
  have bd:=bc.trans (aS.of sd)
  have ecpd:=L8.lst bd ecp8
  have mnp:np≠x/\np≠da/\np≠dh:=⟨nx.symm,na.symm,nh.symm⟩
  have enpd:=bd _ _ mnp.1 mnp.2.1 mnp.2.2 enp8
  have dN:∀ {H'} {i:Nat} {p:Int×List Int},H' np=some (.dK kn)->X[i]?=some p->gN H' np (kV (.inl (i:Int))) (some (.int p.1)):=fun h hp=>.inl ⟨kn,.inl _,.inl h,rfl,(vX _ _ hp).symm⟩
  have hdA:∀ p∈X++[(ln,[z])],lk Da.nums Da.hs p.1=some (hdD Da p):=fun p hp=>(eV La.ln (pma.mem_iff.mpr (Qn _ hp))).1
  have dW:∀ {H'} {k v:Int},H' wp=some (.dK (kvH Da.nums Da.hs))->lk Da.nums Da.hs k=some v->gN H' wp (kV (.inl k)) (some (.int v)):=fun h hk=>.inl ⟨_,.inl _,.inl h,rfl,by rw [gF,hk]; rfl⟩
  have hdz:=(dY Ch La.ln pma).1
  have lkz:lk Da.nums Da.hs ln=some z:=by
   have:=hdA (ln,[z]) (Qn _ (Qm.mpr rfl))
   rw [hdz] at this; exact this
  have hX:∀ {i:Nat},i < m->∃ p,X[i]?=some p/\∃ y,c[i]?=some y/\lk Da.nums Da.hs p.1=some y:=fun {i} hi=>by
   obtain ⟨p,hp⟩:∃ p,X[i]?=some p:=⟨_,Qb (by omega)⟩
   refine ⟨p,hp,hdD Da p,?_,hdA p (Jm _ (Qe hp))⟩
   rw [<- fl,Qj (by rw [Qd]; omega),Qg,hp]; rfl
  refine oI false (xG (b:=false) (c:=false) (aCB (b:=true) fun Q' q'=>?_) (fun _ H2 s2=>fun Q' q'=>⟨_,rfl,_,rfl,wp,_,rfl,dW (s2 _ _ ew) lkz,_,rfl,1,rfl,cp,_,-1,.int z,rfl,rfl,SqL.of (s2 _ _ ecpd),atm,rfl,false,by simp,q' _ (aG.refl _)⟩)) (fun hb=>by cases hb) (fun _ He se=>?_)
  ·refine ⟨_,rfl,((m+1:Nat):Int),1,rfl,rfl,((m+1:Nat):Int) - 1,rfl,by omega,by omega,dU (lo:=0) (n:=(((m+1:Nat):Int) - 1).toNat) (fun σ=>∃ v,σ = [v,some (.ref wp),some (.ref np),some (.ref cp)]) (fun i ys H'=>H'=Hd/\ys=(List.replicate i true).map V.bl) (iV (by omega)) ⟨none,rfl⟩ ⟨rfl,rfl⟩ (fun i ys H' z=>by rw [z.2,Qd,Xc]; exact Qi _) ?_ ?_⟩
   ·rintro i ys σ H' hi ⟨v,rfl⟩ ⟨rfl,rfl⟩ hzz
    obtain ⟨p,hp,y,hy,hl⟩:=hX (i:=i) (by omega)
    refine cN ?_
    refine ⟨_,rfl,_,rfl,_,rfl,np,_,rfl,by rw [Zo]; exact dN enpd hp,wp,_,rfl,dW ew hl,_,rfl,_,rfl,cp,_,0+(i:Int),.int y,rfl,rfl,SqL.of ecpd,by rw [Zo]; exact cH (by rw [Qg,hy]; rfl),rfl,hzz,⟨_,rfl⟩,rfl,?_⟩
    rw [Yq,Jk]; simp
   ·rintro ys H' ⟨rfl,rfl⟩ pc hpc
    refine ⟨pc,List.replicate (((m+1:Nat):Int) - 1).toNat true,rfl,SqL.of aA,true,by rw [aA0],q' _ (aG.new hpc)⟩
  dsimp only [iQ]
  have Le:=Ld.same se
  have be:=bd.trans (aS.of se)
  -- the row taken,one by one
  refine ⟨_,rfl,((m+1:Nat):Int),1,rfl,rfl,((m+1:Nat):Int) - 1,rfl,by omega,by omega,eN (lo:=0) (n:=(((m+1:Nat):Int) - 1).toNat) (fun i σ Hf=>∃ (u7:Option V) (D:DD),σ = [some (.ref t),some (.ref cp),some (.int bs),some (.int ((m+1:Nat):Int)),some (.ref x),v5,some (.ref np),u7,some (.int ln),some (.int (1+r)),v10,v11,some (.int Da.ml),some (.int Da.ma),some (.ref wp)]/\aS x da dh H8 Hf/\Liv K Hf C Pt x da dh D/\((m+1:Nat):Int)<=D.n/\(AsD D).Perm (Bs++(X.drop i++[(ln,[z])]))/\(i=m->D.ml=0)) ⟨_,Da,rfl,be,Le,hna,pma,fun h=>by omega⟩ ?_ ?_⟩
  ·rintro i σ Hf hi ⟨u7,D,rfl,bf,Lf,hnf,pmf,_⟩
   have him:i < m:=by omega
   obtain ⟨p,hp⟩:∃ p,X[i]?=some p:=⟨_,Qb (by omega)⟩
   obtain ⟨hlt,hel⟩:=Qa.mp hp
   have hdr:X.drop i=p::X.drop (i+1):=by rw [Xp hlt,hel]
   dsimp only [aT]
   have enpf:=bf _ _ mnp.1 mnp.2.1 mnp.2.2 enp8
   have hpA:p∈AsD D:=pmf.mem_iff.mpr (Qn _ (Jm _ (by rw [hdr]; exact Qr ..)))
   have hpn:p.1∈D.nums:=by
    rw [<- rM Lf.ln]
    exact Js.mpr ⟨p,hpA,rfl⟩
   have hcf:∀ g∈c,0<=g/\g < D.n:=fun g hg=>by have:=hcg g hg; omega
   refine ⟨_,rfl,x,D.dx,_,rfl,Lf.d.ins,rfl,_,rfl,_,rfl,np,_,rfl,by rw [Zo]; exact dN enpf hp,Lf.take hpn fun D' Hg bg Lg T'=>?_⟩
   have pm':(AsD D).Perm ((p.1,p.2)::(Bs++(X.drop (i+1)++[(ln,[z])]))):=pmf.trans (by rw [hdr,Yn]; exact List.perm_middle)
   obtain ⟨pmg,ng,_,_⟩:=aAb Lf.ln T' pm'
   refine ⟨_,D',rfl,bf.trans bg,Lg,by omega,pmg,fun h=>?_⟩
   have hl1:X.length=i+1:=by omega
   have hd1:X.drop (i+1) = []:=Wi (by omega)
   rw [hdr,hd1] at pmf
   exact aAd Ch Lf.ln hcf hl1 hp pmf (by rw [h]; exact hz) T'
  rintro σ Hf ⟨u7,D,rfl,bf,Lf,hnf,pmf,hml⟩
  have ml0:=hml (by omega)
  refine ⟨_,rfl,x,D.dx,_,rfl,Lf.d.ins,rfl,x,D,rfl,Lf.d.ins,fun p hp=>⟨p,_,0,.int D.ml,rfl,rfl,SqT.of aA,rfl,rfl,_,rfl,zN (by rw [ml0]; simp) ?_⟩⟩
  have sg:=aG.new (o:=.tup [.int D.ml,.int D.ma]) hp
  generalize upd Hf p (.tup [.int D.ml,.int D.ma])=Hg at sg ⊢
  refine ⟨_,rfl,cp,c,rfl,sg _ _ (L8.lst bf ecp8),by omega,by omega,fun g hg=>by rw [hcl]; exact hcg g hg,sg _ _ Lf.pt,fun Hh sh=>k Hh (fun q u hq hu=>?_) ?_⟩
  ·exact sh _ _ (sg _ _ (bf _ _ (aK hu hx) (aK hu hda) (aK hu hdh) (bt8 _ _ hq hu)))
  ·exact ((L8.jar bf J8).same (sg.trans sh)).more (by omega)
theorem aBb:bootBuiltins "max" = some (.builtin "max"):=by decide +kernel
def vU (K:PySem.W.Frag) (Pt:Addr):Sp:=fun vs H Q _=>∃ (a:Addr) (ns:List Int),vs = [.ref a]/\SqL K H a (ns.map V.int)/\H Pt=some (.tab nR)/\∀ H',H' Pt=some (.tab nR)->Q (.bl true) H'
theorem eG:FnScope ["script", "jar", "k", "hands", "called", "dealing", "base", "turn", "hand", "numbers", "at", "where", "ahead", "between", "first", "after"] ["script"] (aI zE):=⟨rfl,rfl,rfl,by decide +kernel,rfl,by decide +kernel,by decide +kernel⟩
set_option maxHeartbeats 4000000 in
theorem aBW {f fI fPu fTa fMo fDe fLo fOr fSc fUn Pt:Addr} {fd dI dPu dTa dMo dDe dLo dOr dSc dUn:FuncData} (G:Fn K mg "law" zE ["script"] f fd) (T:Dc K C) (B:Bl mg) (MK:Mk K C fI) (hmC:mg "Dealing" = some (.ref C)) (GIn:Mt K C "__init__" kZ ["self", "hands"] fI dI) (OIn:FnOk P w K mg base CX0 3 fI dI ["self", "hands"] (nX K C))
  (GPu:Mt K C "put" sU ["self", "able"] fPu dPu) (OPu:FnOk P w K mg base CX0 3 fPu dPu ["self", "able"] (nV K C Pt)) (GTa:Mt K C "take" lA ["self", "number"] fTa dTa) (OTa:FnOk P w K mg base CX0 3 fTa dTa ["self", "number"] (kQ K C)) (GMo:Mt K C "moved" iB ["self"] fMo dMo) (OMo:FnOk P w K mg base CX0 1 fMo dMo ["self"] (jZ K C)) (GDe:Mt K C "deal" mX ["self"] fDe dDe) (ODe:FnOk P w K mg base CX0 1 fDe dDe ["self"] (lS K C)) (GLo:Mt K C "loads" jD ["self"] fLo dLo) (OLo:FnOk P w K mg base CX0 2 fLo dLo ["self"] (jY K C))
  (GSc:Fn K mg "_law_e_scoop" kM ["jar", "many"] fSc dSc) (OSc:FnOk P w K mg base CX0 2 fSc dSc ["jar", "many"] (jU K)) (GOr:Fn K mg "_law_e_order" kL ["jar", "some"] fOr dOr) (OOr:FnOk P w K mg base CX0 3 fOr dOr ["jar", "some"] (lV K)) (GUn:Fn K mg "_law_e_unseen_right" jP ["jar", "called", "base"] fUn dUn) (OUn:FnOk P w K mg base CX0 6 fUn dUn ["jar", "called", "base"] (oJ K Pt)):FnOk P w K mg base CX0 7 f fd ["script"] (vU K Pt):=by
 refine G.fn.ok eG (fun vs H Q E h=>?_) (fun cdv A outer s H vs Q E hr h=>?_)
 ·obtain ⟨a,ns,rfl,_⟩:=h
  rfl
 ·obtain ⟨a,ns,rfl,ha,hT,k⟩:=h
  have hu:=fP hr
  have r6:Room 6 _:=hr
  have r4:Room 4 _:=hr.mono (by decide)
  have r3:Room 3 _:=hr.mono (by decide)
  have r2:Room 2 _:=hr.mono (by decide)
  have r1:Room 1 _:=hr.mono (by decide)
  refine ⟨_,aC (aJ (i:=1) eG.nd rfl (Or.inl rfl) (mF (aB (pv 0) (aB aF (aB aF aE)))))
   (aC (cK PassesOwn.never rfl (bU rfl B.range (aB aF aE)) (aR (i:=2) eG.nd rfl (Or.inl rfl)) (aC (aJ (i:=3) eG.nd rfl (Or.inl rfl) (aM bY aF (cA GSc OSc r2 rfl (aB (pv 1) (aB aF aE)))))
   (aC (aJ (i:=4) eG.nd rfl (Or.inr rfl) (cA GOr OOr r3 rfl (aB (pv 1) (aB (bL (fM rfl) rfl B.list kK (aB (bL gW rfl B.range qU (aB (pv 3) aE)) aE)) aE))))
   (aC (aJ (i:=5) eG.nd rfl (Or.inl rfl) (qE MK OIn r4 rfl hmC GIn.bd .nil bD (aB (pv 3) aE)))
   (aC (aJ (i:=6) eG.nd rfl (Or.inl rfl) (cA GSc OSc r2 rfl (aB (pv 1) (aB (aM bY aF (aM aAm (aM cV aF (pv 3)) (pv 3))) aE))))
   (aC (cK PassesOwn.never rfl (bU rfl B.range (aB (pv 6) aE)) (aR (i:=7) eG.nd rfl (Or.inl rfl)) (aH (cK PassesOwn.never rfl (eX (cA GOr OOr r3 rfl (aB (pv 1) (aB (pv 4) aE)))) (aR (i:=8) eG.nd rfl (Or.inl rfl)) (aH (bT (bN (pv 5) T.cl GPu.me OPu r3 GPu.bd .nil bD (aB (cX (aB (pv 8) aE)) aE)))))))
   (aC (aJ (i:=9) eG.nd rfl (Or.inr rfl) gZ)
   (aC (cK PassesOwn.never rfl (eX (cA GOr OOr r3 rfl (aB (pv 1) (aB (bL (fM rfl) rfl B.list kK (aB (bL gW rfl B.range qU (aB (pv 3) aE)) aE)) aE)))) (aR (i:=10) eG.nd rfl (Or.inl rfl)) (aH (gE hu (pv 9) (pv 10) (bN (pv 5) T.cl GPu.me OPu r3 GPu.bd .nil bD (aB (bL fJ rfl B.tuple iJ (aB (aU kW rfl B.sorted sT (aB (mG qH (pv 4) (jJ (pv 10)) (jJ (aM bY (pv 10) aF))) aE)) aE)) aE)) rfl)))
   (aC (cG (aY (yD hr.u64) (bK (pv 5) T.cl GLo.me OLo r2 GLo.bd .nil bD) (aM (vI (K:=K) rfl) (cX (aB (aM bY (pv 6) aF) aE)) (pv 3)) (bC _)) (aH (aZ gH)) bI)
   (aC (aJ (i:=11) eG.nd rfl (Or.inr rfl) (bK (pv 5) T.cl GDe.me ODe r1 GDe.bd .nil bD))
   (aC (cG (gB (aU (sJ rfl) rfl B.any aBe (aB (iI (own:=["at"]) (fr:=[11,9,4]) (frn:=["where", "numbers", "called"]) (cP (aI zE) ["script", "jar", "k", "hands", "called", "dealing", "base", "turn", "hand", "numbers", "at", "where", "ahead", "between", "first", "after"] rfl rfl (by decide +kernel)) rfl (bU rfl B.range (aB (pv 3) aE)) (fun _ _ _ _=>(aR (i:=0) (show (["at", "where", "numbers", "called"]:List Str).Nodup by decide +kernel) rfl (Or.inl rfl))) (fun _ _ _ _=>gU) (fun _ _ _ _=>jH jG (cI hu (pv 1) (cI hu (pv 2) (pv 0) (fun _ _=>rfl)) (fun _ _=>rfl)) (aX (mR (K:=K) rfl) (pv 3) (pv 0) (fun _ _=>rfl)) (bC _))) aE))) (aH (aZ gH)) bI)
   (aC (aJ (i:=12) eG.nd rfl (Or.inl rfl) (aX cB (bK (pv 5) T.cl GMo.me OMo r1 GMo.bd .nil bD) aF (fun _ _=>rfl)))
   (aC (bT (bN (pv 5) T.cl GTa.me OTa r3 GTa.bd .nil bD (aB (cI hu (pv 9) (aM cV (pv 3) aF) (fun _ _=>rfl)) aE)))
   (aC (aJ (i:=13) eG.nd rfl (Or.inl rfl) (bK (pv 5) T.cl GMo.me OMo r1 GMo.bd .nil bD))
   (aC (aJ (i:=14) eG.nd rfl (Or.inl rfl) (bN (pv 5) T.cl GPu.me OPu r3 GPu.bd .nil bD (aB (cX (aB (aX bE (pv 4) aF (fun _ _=>rfl)) aE)) aE)))
   (aC (aJ (i:=15) eG.nd rfl (Or.inl rfl) (bK (pv 5) T.cl GMo.me OMo r1 GMo.bd .nil bD))
   (aC (aJ (i:=11) eG.nd rfl (Or.inr rfl) (bK (pv 5) T.cl GDe.me ODe r1 GDe.bd .nil bD))
   (aC (cG (PW.pt (gI (gB (aU (sJ rfl) rfl B.any aBe (aB (iI (own:=["at"]) (fr:=[11,9,4]) (frn:=["where", "numbers", "called"]) (cP (aI zE) ["script", "jar", "k", "hands", "called", "dealing", "base", "turn", "hand", "numbers", "at", "where", "ahead", "between", "first", "after"] rfl rfl (by decide +kernel)) rfl (bU rfl B.range (aB (aM cV (pv 3) aF) aE)) (fun _ _ _ _=>(aR (i:=0) (show (["at", "where", "numbers", "called"]:List Str).Nodup by decide +kernel) rfl (Or.inl rfl))) (fun _ _ _ _=>gU) (fun _ _ _ _=>jH jG (cI hu (pv 1) (cI hu (pv 2) (pv 0) (fun _ _=>rfl)) (fun _ _=>rfl)) (aX (mR (K:=K) rfl) (pv 3) (aM bY (pv 0) aF) (fun _ _=>rfl)) (bC _))) aE))) (fG (aY jG (cI hu (pv 11) (pv 14) (fun _ _=>rfl)) (aX bE (pv 4) aF (fun _ _=>rfl)) (bC _))))) (aH (aZ gH)) bI)
   (aC (cG (PW.pt (gI (aY (yD hr.u64) (bK (pv 5) T.cl GLo.me OLo r2 GLo.bd .nil bD) (aM (vI (K:=K) rfl) (cX (aB (aM bY (pv 6) aF) aE)) (pv 3)) (bC _)) (fG (aY uZ (aU (wB rfl) rfl B.max aBb (aB (aX cB (pv 13) aF (fun _ _=>rfl)) (aB (aX cB (pv 15) aF (fun _ _=>rfl)) aE))) (aM cV (pv 3) aF) (bC _))))) (aH (aZ gH)) bI)
   (aC (cG (PW.pt (gI (aY lY (aM cV (aX cB (pv 15) aF (fun _ _=>rfl)) (pv 12)) (aM cV (pv 3) aF) (bC _)) (fG (aY jG (aM cV (aX cB (pv 13) aF (fun _ _=>rfl)) (pv 12)) (aX cB (pv 13) aF (fun _ _=>rfl)) (bC _))))) (aH (aZ gH)) bI)
   (aH (cG (PW.pt (gI (aY jG (aM cV (aX cB (pv 15) aF (fun _ _=>rfl)) (aX cB (pv 13) aF (fun _ _=>rfl))) (aX cB (pv 15) aF (fun _ _=>rfl)) (bC _)) (fG (iZ (gB (cA GUn OUn r6 rfl (aB (pv 1) (aB (pv 4) (aB (pv 6) aE))))))))) (aH (aZ gH)) bI))))))))))))))))))))))
   (aH (aZ gH))),?_⟩
  refine ⟨_,rfl,szK 3 (by decide) |> Zc,fun t ht=>?_⟩
  dsimp only [aT]
  have q1:=aG.new (o:=.lst [.ref a,.int 0,.int 0]) ht
  have J1:Jar K (upd H t (.lst [.ref a,.int 0,.int 0])) t a ns 0:=⟨⟨0,0,Zx _,Zx _,aA⟩,q1.seqL ha⟩
  generalize upd H t (.lst [.ref a,.int 0,.int 0])=H1 at q1 J1 ⊢
  refine ⟨_,rfl,by decide,by decide,eN (lo:=0) (n:=2) (fun i σ H2=>(∃ v2 v3 v4 v5 v6 v7 v8 v9 v10 v11 v12 v13 v14 v15,σ = [some (.ref a),some (.ref t),v2,v3,v4,v5,v6,v7,v8,v9,v10,v11,v12,v13,v14,v15])/\Jar K H2 t a ns (300*i)/\H2 Pt=some (.tab nR)) ⟨⟨none,none,none,none,none,none,none,none,none,none,none,none,none,none,rfl⟩,J1,q1 _ _ hT⟩ ?_ ?_⟩
  ·rintro i σ H2 hi ⟨⟨v2,v3,v4,v5,v6,v7,v8,v9,v10,v11,v12,v13,v14,v15,rfl⟩,J2,p2⟩
   dsimp only [aT]
   obtain ⟨N,hN⟩:∃ N,N=300*i:=⟨_,rfl⟩
   rw [<- hN] at J2
   have hN3:N<=300:=by omega
   obtain ⟨xs2,et2⟩:=J2.lst
   refine ⟨_,rfl,t,a,ns,N,5,rfl,J2,by omega,by decide,by decide,fun r H3 r0 r1' b3 J3=>⟨2,r,rfl,rfl,?_⟩⟩
   dsimp only [aT]
   obtain ⟨m,hm⟩:∃ m:Nat,((m+1:Nat):Int)=2+r:=⟨(1+r).toNat,by omega⟩
   rw [<- hm]
   have hm1:1<=m:=by omega
   have hm5:m<=5:=by omega
   have p3:=b3 _ _ (fun z=>by rw [z,et2] at p2; cases p2) p2
   clear J2 et2 xs2 p2 b3
   -- called
   refine ⟨_,rfl,_,rfl,_,rfl,fun rp hrp=>⟨rp,m+1,rfl,aA,by omega,fun lp hlp=>?_⟩⟩
   have s4:=(aG.new (o:=.rng 0 ((m+1:Nat):Int)) hrp).trans (aG.new (o:=.lst ((cL (m+1)).map V.int)) hlp)
   have e4:upd (upd H3 rp (.rng 0 ((m+1:Nat):Int))) lp (.lst ((cL (m+1)).map V.int)) lp=some (.lst ((cL (m+1)).map V.int)):=aA
   obtain ⟨xs3,et3⟩:=J3.lst
   have nlt:lp≠t:=(aK ((aG.new (o:=.rng 0 ((m+1:Nat):Int)) hrp) _ _ et3) hlp).symm
   generalize upd (upd H3 rp (.rng 0 ((m+1:Nat):Int))) lp (.lst ((cL (m+1)).map V.int))=H4 at s4 e4 ⊢
   refine ⟨t,a,lp,ns,N+1,cL (m+1),rfl,J3.same s4,by omega,e4,nlt,by rw [aN]; omega,fun cp c H5 hcu b5 J5 hcp0 hcp=>?_⟩
   dsimp only [aT]
   have nct:cp≠t:=(aK (s4 _ _ et3) hcp0).symm
   have p5:=b5 _ _ (fun z=>by rw [z,et3] at p3; cases p3) (s4 _ _ p3)
   have hcl:c.length=m+1:=by rw [hcu.length_eq,aN]
   have hnd:c.Nodup:=hcu.nodup_iff.mpr (eW _)
   have hcg:∀ g∈c,0<=g/\g < ((m+1:Nat):Int):=fun g hg=>by
    obtain ⟨i,rfl,hi⟩:=kB (hcu.mem_iff.mp hg)
    omega
   have hall:∀ g:Int,0<=g->g < ((m+1:Nat):Int)->g∈c:=fun g h0 h1=>hcu.mem_iff.mpr (Qe (i:=g.toNat) (by rw [cE (by omega)]; congr 1; omega))
   clear s4 e4 et3 xs3 nlt hlp hrp p3 b5 J3 hcp0
   -- the dealing
   refine ⟨_,rfl,fun x dx hx hdx ndx=>?_⟩
   refine ⟨x,dx,_,rfl,aA,by omega,by omega,fun da dh H6 b6 hda0 hdh0 hD=>⟨rfl,?_⟩⟩
   obtain ⟨s6,hda,hdh,L6⟩:=aBT (by omega) (by omega) p5 hx hdx ndx b6 hda0 hdh0 hD
   clear b6 hda0 hdh0 hD hdx ndx
   dsimp only [aT]
   have J6:=J5.same s6
   have ecp6:=s6 _ _ hcp
   have ncx:=aK hcp hx
   have nca:=aK hcp hda
   have nch:=aK hcp hdh
   obtain ⟨xs5,et5⟩:=J5.lst
   have ntx:=aK et5 hx
   have nta:=aK et5 hda
   have nth:=aK et5 hdh
   have eqv:(1:Int)+(12 - ((m+1:Nat):Int)) / ((m+1:Nat):Int)<=6/\1<=(1:Int)+(12 - ((m+1:Nat):Int)) / ((m+1:Nat):Int):=by
    rcases (show m=1∨m=2∨m=3∨m=4∨m=5 by omega) with rfl | rfl | rfl | rfl | rfl <;> decide
   refine ⟨_,rfl,_,rfl,12,((m+1:Nat):Int),rfl,rfl,_,rfl,12 - ((m+1:Nat):Int),((m+1:Nat):Int),rfl,rfl,?_,1,_,rfl,rfl,t,a,ns,N+1+12,_,rfl,J6,by omega,eqv.2,?_,fun r7 H7 r70 r71 b7 J7=>?_⟩
   ·exact ⟨by omega,by omega⟩
   ·exact Zk (show ((1:Int)+(12 - ((m+1:Nat):Int)) / ((m+1:Nat):Int)).natAbs<=6 by omega) (by decide +kernel)
   dsimp only [aT]
   obtain ⟨bs,hbs⟩:∃ bs:Nat,(bs:Int)=r7:=⟨r7.toNat,by omega⟩
   rw [<- hbs] at r71 ⊢
   have hb12:(m+1)*(bs+1)<=12:=by
    have h1:(bs:Int)<=(12 - ((m+1:Nat):Int)) / ((m+1:Nat):Int):=by omega
    have h2:=(Int.le_ediv_iff_mul_le (show (0:Int) < ((m+1:Nat):Int) by omega)).mp h1
    have h3:((bs*(m+1):Nat):Int)<=12 - ((m+1:Nat):Int):=by rw [Int.natCast_mul]; exact h2
    rw [Wj,Yl]
    omega
   have h12':bs*(m+1)+(m+1)<=12:=by rw [<- Yl,Wj]; exact hb12
   have hbs5:bs<=5:=by
    have:=Yp (bs+1) (show 2<=m+1 by omega)
    omega
   obtain ⟨xs6,et6⟩:=J6.lst
   have ecp7:=b7 _ _ nct ecp6
   have L7:Liv K H7 C Pt x da dh (DD.begun ((m+1:Nat):Int) dx da dh):=⟨L6.d.but et6 b7,L6.m,b7 _ _ (fun z=>by have:=L6.pt; rw [z,et6] at this; cases this) L6.pt,L6.ea,L6.eh⟩
   clear et6 xs6 b7 J6 L6 ecp6 et5 xs5 s6 J5 r70 r71 eqv hbs
   -- the works of one hand each
   refine ⟨_,rfl,bs,rfl,by omega,by omega,eN (lo:=0) (n:=(bs:Int).toNat) (fun j σ H8=>(∃ u7 u8,σ = [some (.ref a),some (.ref t),some (.int (0+(i:Int))),some (.int ((m+1:Nat):Int)),some (.ref cp),some (.ref x),some (.int bs),u7,u8,v9,v10,v11,v12,v13,v14,v15])/\Jar K H8 t a ns (N+14+12*j)/\H8 cp=some (.lst (c.map V.int))/\∃ (D:DD) (bl:List Int),Liv K H8 C Pt x da dh D/\D.n=((m+1:Nat):Int)/\0<=D.ma/\(AsD D).map (·.2)=(bl.map fun g=>[g])/\bl.length=j*(m+1)/\(∀ g∈bl,g∈c)/\∀ g∈c,bl.count g=j) ⟨⟨v7,v8,rfl⟩,J7.more (by omega),ecp7,_,[],L7,rfl,Zx _,rfl,by rw [Nat.zero_mul]; rfl,fun g hg=>(Qy hg).elim,fun g _=>rfl⟩ ?_ ?_⟩
   ·rintro j σ H8 hj ⟨⟨u7,u8,rfl⟩,J8,ecp8,D,bl,L8,hn8,hma8,as8,bll,blm,blc⟩
    have hjb:j < bs:=by omega
    dsimp only [aT]
    obtain ⟨xs8,et8⟩:=J8.lst
    refine ⟨_,rfl,_,rfl,t,a,cp,ns,N+14+12*j,c,rfl,J8,by omega,ecp8,nct,by omega,fun oq ys H9 py b9 J9 hoq eoq=>?_⟩
    have L9:Liv K H9 C Pt x da dh D:=⟨L8.d.but et8 b9,L8.m,b9 _ _ (fun z=>by have:=L8.pt; rw [z,et8] at this; cases this) L8.pt,L8.ea,L8.eh⟩
    have ecp9:=b9 _ _ nct ecp8
    have yl:ys.length=m+1:=by rw [py.length_eq,hcl]
    have lt:bl.length+(m+1)<=bs*(m+1):=by
     rw [bll,<- Yl]
     exact Yp _ hjb
    refine ⟨oq,rfl,⟨_,SqL.of eoq⟩,eQ (K:=K) (a:=oq) (xs:=ys.map V.int) (fun l σ Ha=>(∃ u8,σ = [some (.ref a),some (.ref t),some (.int (0+(i:Int))),some (.int ((m+1:Nat):Int)),some (.ref cp),some (.ref x),some (.int bs),some (.int (0+(j:Int))),u8,v9,v10,v11,v12,v13,v14,v15])/\aS x da dh H9 Ha/\∃ D,Liv K Ha C Pt x da dh D/\D.n=((m+1:Nat):Int)/\0<=D.ma/\(AsD D).map (·.2)=(bl++ys.take l).map fun g=>[g]) ⟨⟨_,rfl⟩,aS.refl _ _ _ _,D,L9,hn8,hma8,by rw [Ws,Ya]; exact as8⟩ (fun l σ Ha _ z=>SqL.of (L9.lst z.2.1 eoq)) ?_ ?_⟩
    ·rintro l xv σ Ha hxv ⟨⟨u8,rfl⟩,ba,Da,La,hna,hmaa,asa⟩
     rw [Qg] at hxv
     obtain ⟨g,hg,rfl⟩:=Jr.mp hxv
     dsimp only [aT]
     have hl:=(Qa.mp hg).1
     obtain ⟨g0,g1⟩:=hcg g (py.mem_iff.mp (Qe hg))
     have hla:Da.nums.length=bl.length+l:=by
      have h1:=congrArg Zw asa
      rw [Qd,Qd,Qh,Xe] at h1
      unfold AsD at h1
      rw [Xn,La.d.wl,Zq] at h1
      omega
     refine ⟨_,rfl,x,Da.dx,_,rfl,La.d.ins,rfl,_,rfl,sz1 _,fun tp htp=>?_⟩
     have La':=La.same (aG.new (o:=.tup [.int g]) htp)
     refine La'.put (l:=[g]) (SqT.of aA) (dM g0 (by rw [hna]; exact g1)) (by omega) fun Db Hb bb Lb PD=>?_
     obtain ⟨ab,nb,_,_,_⟩:=tM La.ln PD
     obtain ⟨_,_,_,mab,_⟩:=oC La.ln Lb.m PD
     refine ⟨⟨_,rfl⟩,(ba.trans (aS.of (aG.new htp))).trans bb,Db,Lb,nb.trans hna,by omega,?_⟩
     rw [ab,Jk,asa,Zj,hg,<- Xs]
     show _=List.map _ (bl++List.take l ys++[g])
     rw [Jk (l₁:=bl++List.take l ys)]; rfl
    rintro σ Ha ⟨⟨u8,rfl⟩,ba,Da,La,hna,hmaa,asa⟩
    rw [Qd,Xy] at asa
    refine ⟨⟨_,_,rfl⟩,(L9.jar ba J9).more (by omega),L9.lst ba ecp9,Da,bl++ys,La,hna,hmaa,asa,by rw [Qh,bll,yl,Yl],fun g hg=>?_,fun g hg=>?_⟩
    ·rcases Jq.mp hg with z | z
     ·exact blm g z
     ·exact py.mem_iff.mp z
    ·rw [Xu,blc g hg,py.count_eq,hnd.count,if_pos hg]
   rintro σ H8 ⟨⟨u7,u8,rfl⟩,J8,ecp8,D8,bl,L8,hn8,hma8,as8,bll,blm,blc⟩
   rw [Xh] at J8 bll blc
   obtain ⟨Bs,hBs⟩:∃ Bs,Bs=AsD D8:=⟨_,rfl⟩
   rw [<- hBs] at as8
   have Bll:Bs.length=bs*(m+1):=by
    have h1:=congrArg Zw as8
    rw [Qd,Qd] at h1
    omega
   clear L7 ecp7 J7
   intro np hnp
   dsimp only [aT]
   have s9:=aG.new (o:=.dK []) hnp
   have e9:upd H8 np (.dK []) np=some (.dK []):=aA
   have nx:=aK L8.d.ins hnp
   have na:=aK L8.d.able hnp
   have nh:=aK L8.d.hand hnp
   rw [L8.ea] at na
   rw [L8.eh] at nh
   generalize upd H8 np (.dK [])=H9 at s9 e9 ⊢
   have J9:=J8.same s9
   have L9:=L8.same s9
   have ecp9:=s9 _ _ ecp8
   obtain ⟨xs9,et9⟩:=J9.lst
   -- the row
   refine ⟨_,rfl,_,rfl,_,rfl,fun rp hrp=>⟨rp,m+1,rfl,aA,by omega,fun lp hlp=>?_⟩⟩
   have s10:=(aG.new (o:=.rng 0 ((m+1:Nat):Int)) hrp).trans (aG.new (o:=.lst ((cL (m+1)).map V.int)) hlp)
   have e10:upd (upd H9 rp (.rng 0 ((m+1:Nat):Int))) lp (.lst ((cL (m+1)).map V.int)) lp=some (.lst ((cL (m+1)).map V.int)):=aA
   have nlt:lp≠t:=(aK ((aG.new (o:=.rng 0 ((m+1:Nat):Int)) hrp) _ _ et9) hlp).symm
   generalize upd (upd H9 rp (.rng 0 ((m+1:Nat):Int))) lp (.lst ((cL (m+1)).map V.int))=Ha at s10 e10 ⊢
   refine ⟨t,a,lp,ns,N+14+12*bs,cL (m+1),rfl,J9.same s10,by omega,e10,nlt,by rw [aN]; omega,fun oq ats Hb pa bb Jb hoq eoq=>?_⟩
   have kb:∀ {c u},H9 c=some u->(∀ xs,u≠.lst xs)->Hb c=some u:=fun hc hu=>bb _ _ (fun z=>by rw [z,et9] at hc; exact hu _ (Option.some.inj hc).symm) (s10 _ _ hc)
   have Lb:Liv K Hb C Pt x da dh D8:=⟨(L9.d.same s10).but (s10 _ _ et9) bb,L9.m,kb L9.pt (fun _ z=>by cases z),L9.ea,L9.eh⟩
   have enb:=kb e9 (fun _ z=>by cases z)
   have ecpb:=bb _ _ nct (s10 _ _ ecp9)
   have nda:ats.Nodup:=pa.nodup_iff.mpr (eW _)
   have atl:ats.length=m+1:=by rw [pa.length_eq,aN]
   have I0:Lnk K Hb C Pt x da dh np ((m+1:Nat):Int) c ats Bs 0 D8 []:=⟨Lb,hn8,by rw [hBs,Ya],rfl,enb,hma8,fun i p a h=>by simp at h⟩
   have mnp:Md Hb np:=.inr ⟨_,enb⟩
   refine ⟨oq,rfl,⟨_,SqL.of eoq⟩,eQ (K:=K) (a:=oq) (xs:=ats.map V.int) (fun j σ Hc=>(∃ u10,σ = [some (.ref a),some (.ref t),some (.int (0+(i:Int))),some (.int ((m+1:Nat):Int)),some (.ref cp),some (.ref x),some (.int bs),u7,u8,some (.ref np),u10,v11,v12,v13,v14,v15])/\gG x da dh np Hb Hc/\∃ D Y,Lnk K Hc C Pt x da dh np ((m+1:Nat):Int) c ats Bs j D Y) ⟨⟨_,rfl⟩,gG.refl,_,_,I0⟩ (fun j σ Hc _ z=>SqL.of (z.2.1.lst Lb.mx.1 Lb.mx.2.1 Lb.mx.2.2 mnp eoq)) ?_ ?_⟩
   ·rintro j xv σ Hc hxv ⟨⟨u10,rfl⟩,bc,D,Y,Ic⟩
    rw [Qg] at hxv
    obtain ⟨g,hg,rfl⟩:=Jr.mp hxv
    obtain ⟨kk,rfl,hkk⟩:=kB (pa.mem_iff.mp (Qe hg))
    dsimp only [aT]
    have hj:=(Qa.mp hg).1
    exact vT (ic:=4) (ix:=5) (inn:=9) (ia:=10) Ic rfl rfl rfl rfl (bc.lst Lb.mx.1 Lb.mx.2.1 Lb.mx.2.2 mnp ecpb) hnd hcg (by omega) nda hg (by omega) nx.symm na.symm nh.symm fun D' Y' H' b' I'=>⟨⟨_,rfl⟩,bc.trans b',D',Y',I'⟩
   rintro σ Hc ⟨⟨u10,rfl⟩,bc,Dc,Y,Ic⟩
   rw [Qd,atl] at Ic
   obtain ⟨X,en,z,pmY,hz,hXl,x1,lkX,lke⟩:=oG hcl pa Ic.yl Ic.ps
   have Ch:Chn c bs Bs X:=tP hnd hcl hXl as8 blm blc x1
   have pmc:(AsD Dc).Perm (Bs++(X++[(en,[z])])):=by rw [Ic.as]; exact pmY.append_left _
   have ecpc:=bc.lst Lb.mx.1 Lb.mx.2.1 Lb.mx.2.2 mnp ecpb
   have Jc:=bc.jar Lb.mx.1 Lb.mx.2.1 Lb.mx.2.2 mnp Jb
   obtain ⟨kn,hkn⟩:∃ kn,kn=kvH (ats.take (m+1)) (Y.map (·.1)):=⟨_,rfl⟩
   have enpc:=Ic.nd
   rw [<- hkn] at enpc
   rw [Xb (by omega)] at hkn
   have vX:∀ (i:Nat) p,X[i]?=some p->bJ kn (.inl (i:Int))=some (.int p.1):=fun i p h=>by rw [hkn,gF,lkX i p h]; rfl
   have ve:bJ kn (.inl (m:Int))=some (.int en):=by rw [hkn,gF,lke]; rfl
   have Lc:=Ic.l
   have hnc:=Ic.n
   obtain ⟨z0,hz0⟩:∃ z0,c[0]?=some z0:=⟨_,Qb (by omega)⟩
   have hzX:c[X.length]?=some z:=by rw [hXl]; exact hz
   obtain ⟨z00,z01⟩:=hcg z0 (Qe hz0)
   have hcc:∀ g∈c,0<=g/\g < Dc.n:=by rw [hnc]; exact hcg
   have at0:atI (c.map V.int) 0=some (.int z0):=cH (j:=0) (by rw [Qg,hz0]; rfl)
   clear Ic pmY lkX lke hkn x1 bc enb ecpb I0 kb Lb mnp eoq hoq Jb bb pa et9 xs9 J9 s10 e10 nlt hlp hrp e9 s9 L8 L9 ecp9 ecp8 J8 as8 hBs hn8 hma8
   have fl:=iP Ch Lc.ln hcc pmc hzX
   have ln6:∀ {D:DD},D.n=((m+1:Nat):Int)->0<=D.n/\D.n<=6:=fun h=>by omega
   have ldc:∀ {D:DD},D.n=((m+1:Nat):Int)->dX D.n D.hs=List.replicate D.n.toNat ((bs:Int)+1)->dX D.n D.hs=List.replicate (m+1) ((bs:Int)+1):=fun h e=>by rw [e,h,Xh]
   have rpf:∀ k:Nat,(List.replicate k [V.int ((bs:Int)+1)]).flatten=(List.replicate k ((bs:Int)+1)).map V.int:=fun k=>by
    induction k with
    | zero=>rfl
    | succ k ih=>rw [Xd,Zb,ih,Xd,Qu]; rfl
   have anyF:∀ k:Nat,(List.replicate k false).any id=false:=fun k=>by
    induction k with
    | zero=>rfl
    | succ k ih=>rw [Xd,Yb,ih]; rfl
   have ld1:=ldc hnc (oE (Y:=[]) Ch Lc.ln pmc (by rw [hnc]; exact hall) (by rw [fl]))
   dsimp only
   -- how they stand
   refine oI false (fun Q' q'=>⟨_,rfl,x,Dc.dx,_,rfl,Lc.d.ins,rfl,x,Dc,rfl,Lc.d,(ln6 hnc).1,(ln6 hnc).2,fun p1 H1 s1 hp1=>⟨_,rfl,bs,1,rfl,rfl,sz1 _,fun tp htp=>⟨_,rfl,tp,m+1,_,rfl,rfl,SqT.of aA,by omega,by simp,fun q H2 s2 hq=>?_⟩⟩⟩) (fun hb=>by cases hb) (fun _ Hd sd=>?_)
   ·rw [rpf] at hq
    rw [ld1] at hp1
    refine ⟨.tuple ((List.replicate (m+1) ((bs:Int)+1)).map .int),.tuple ((List.replicate (m+1) ((bs:Int)+1)).map .int),bP.mpr ⟨p1,rfl,s2.seqT ((aG.new htp).seqT (SqT.of hp1))⟩,bP.mpr ⟨q,rfl,hq⟩,cQ _,cQ _,bR _,bR _,false,?_,q' _ ((s1.trans (aG.new htp)).trans s2)⟩
    rw [PySem.SeqAt.eqv_refl _ (SeqAt.canLay_of_shaped (bR _))]; rfl
   dsimp only [iQ]
   have Ld:=Lc.same sd
   refine ⟨_,rfl,x,Dc.dx,_,rfl,Ld.d.ins,rfl,x,Dc,rfl,Ld.d,fun wp hwp=>?_⟩
   dsimp only [aT]
   have se:=sd.trans (aG.new (o:=.dK (kvH Dc.nums Dc.hs)) hwp)
   have ew:upd Hd wp (.dK (kvH Dc.nums Dc.hs)) wp=some (.dK (kvH Dc.nums Dc.hs)):=aA
   generalize upd Hd wp (.dK (kvH Dc.nums Dc.hs))=He at se ew ⊢
   have dN:∀ {H'} {i:Nat} {p:Int×List Int},H' np=some (.dK kn)->X[i]?=some p->gN H' np (kV (.inl (i:Int))) (some (.int p.1)):=fun h hp=>.inl ⟨kn,.inl _,.inl h,rfl,(vX _ _ hp).symm⟩
   have dW:∀ {H'} {D:DD} {w':Addr} {k v:Int},H' w'=some (.dK (kvH D.nums D.hs))->lk D.nums D.hs k=some v->gN H' w' (kV (.inl k)) (some (.int v)):=fun h hk=>.inl ⟨_,.inl _,.inl h,rfl,by rw [gF,hk]; rfl⟩
   have hdz:=(dY Ch Lc.ln pmc).1
   have hdA:∀ p∈X++[(en,[z])],lk Dc.nums Dc.hs p.1=some (hdD Dc p):=fun p hp=>(eV Lc.ln (pmc.mem_iff.mpr (Qn _ hp))).1
   have lkz:lk Dc.nums Dc.hs en=some z:=by
    have:=hdA (en,[z]) (Qn _ (Qm.mpr rfl))
    rw [hdz] at this; exact this
   have hE:∀ {j:Nat},j < m+1->∃ k y:Int,bJ kn (.inl (j:Int))=some (.int k)/\lk Dc.nums Dc.hs k=some y/\c[j]?=some y:=fun {j} hj=>by
    by_cases cj:j < m
    ·obtain ⟨p,hp⟩:∃ p,X[j]?=some p:=⟨_,Qb (by omega)⟩
     refine ⟨p.1,hdD Dc p,vX j p hp,hdA p (Jm _ (Qe hp)),?_⟩
     rw [<- fl,Qj (by rw [Qd]; omega),Qg,hp]; rfl
    ·have:j=m:=by omega
     subst this
     exact ⟨en,z,ve,lkz,hz⟩
   refine oI false (fun Q' q'=>?_) (fun hb=>by cases hb) (fun _ Hf sf=>?_)
   ·refine ⟨_,rfl,((m+1:Nat):Int),rfl,by omega,by omega,dU (lo:=0) (n:=((m+1:Nat):Int).toNat) (fun σ=>∃ v,σ = [v,some (.ref wp),some (.ref np),some (.ref cp)]) (fun i ys H'=>H'=He/\ys=(List.replicate i false).map V.bl) (iV (by omega)) ⟨none,rfl⟩ ⟨rfl,rfl⟩ (fun i ys H' z=>by rw [z.2,Qd,Xc]; exact Qi _) ?_ ?_⟩
    ·rintro j ys σ H' hj ⟨v,rfl⟩ ⟨rfl,rfl⟩ hzz
     obtain ⟨kk,y,h1,h2,h3⟩:=hE (j:=j) (by omega)
     refine cN ?_
     refine ⟨_,rfl,_,rfl,_,rfl,np,_,rfl,.inl ⟨kn,.inl _,.inl (se _ _ enpc),rfl,by rw [Zo]; exact h1.symm⟩,wp,_,rfl,dW ew h2,_,rfl,_,rfl,cp,_,0+(j:Int),.int y,rfl,rfl,SqL.of (se _ _ ecpc),by rw [Zo]; exact cH (by rw [Qg,h3]; rfl),rfl,hzz,⟨_,rfl⟩,rfl,?_⟩
     rw [Yq,Jk]; simp
    ·rintro ys H' ⟨rfl,rfl⟩ pc hpc
     exact ⟨pc,List.replicate ((m+1:Nat):Int).toNat false,rfl,SqL.of aA,false,by rw [anyF],q' _ (aG.new hpc)⟩
   dsimp only [iQ]
   have s0f:=se.trans sf
   have Lf:=Lc.same s0f
   have ecpf:=s0f _ _ ecpc
   have enpf:=s0f _ _ enpc
   have Jf:=Jc.same s0f
   clear sd se sf ew Ld hE hdA lkz hdz
   refine ⟨_,rfl,x,Dc.dx,_,rfl,Lf.d.ins,rfl,x,Dc,rfl,Lf.d.ins,fun mp hmp=>⟨mp,_,1,.int Dc.ma,rfl,rfl,SqT.of aA,rfl,?_⟩⟩
   dsimp only [aT]
   have sg:=aG.new (o:=.tup [.int Dc.ml,.int Dc.ma]) hmp
   generalize upd Hf mp (.tup [.int Dc.ml,.int Dc.ma])=Hg at sg ⊢
   have Lg:=Lf.same sg
   have ecpg:=sg _ _ ecpf
   have enpg:=sg _ _ enpf
   have Jg:=Jf.same sg
   have men:en∈Dc.nums:=by
    rw [<- rM Lc.ln]
    exact Js.mpr ⟨(en,[z]),pmc.mem_iff.mpr (Qn _ (Qn _ (Qm.mpr rfl))),rfl⟩
   have lenc:Dc.nums.length=bs*(m+1)+m+1:=by
    have h1:=pmc.length_eq
    rw [Qh,Qh,Bll,hXl] at h1
    unfold AsD at h1
    rw [Xn,Lc.d.wl,Zq] at h1
    rw [h1]; rfl
   -- the last one taken
   refine ⟨_,rfl,x,Dc.dx,_,rfl,Lg.d.ins,rfl,_,rfl,_,rfl,((m+1:Nat):Int),1,rfl,rfl,np,_,rfl,.inl ⟨kn,.inl (((m+1:Nat):Int) - 1),.inl enpg,rfl,by rw [show ((m+1:Nat):Int) - 1=(m:Int) by omega]; exact ve.symm⟩,Lg.take men fun D1 Hh bh Lh T1=>?_⟩
   have ecph:=Lg.lst bh ecpg
   have enph:=bh _ _ nx.symm na.symm nh.symm enpg
   have Jh:=Lg.jar bh Jg
   obtain ⟨pmn1,_,n1,_⟩:=dZ T1
   have l1:=pmn1.length_eq
   rw [Qz] at l1
   refine ⟨_,rfl,x,D1.dx,_,rfl,Lh.d.ins,rfl,x,D1,rfl,Lh.d.ins,fun bp hbp=>?_⟩
   dsimp only [aT]
   have si:=aG.new (o:=.tup [.int D1.ml,.int D1.ma]) hbp
   have ebp:upd Hh bp (.tup [.int D1.ml,.int D1.ma]) bp=some (.tup [.int D1.ml,.int D1.ma]):=aA
   generalize upd Hh bp (.tup [.int D1.ml,.int D1.ma])=Hi at si ebp ⊢
   have Li:=Lh.same si
   have ecpi:=si _ _ ecph
   have enpi:=si _ _ enph
   have Ji:=Jh.same si
   -- the first one put
   refine ⟨_,rfl,x,D1.dx,_,rfl,Li.d.ins,rfl,_,rfl,cp,_,0,.int z0,rfl,rfl,SqL.of ecpi,at0,sz1 _,fun tp htp=>?_⟩
   have Li':=Li.same (aG.new (o:=.tup [.int z0]) htp)
   refine Li'.put (l:=[z0]) (SqT.of aA) (dM z00 (by rw [n1,hnc]; exact z01)) (by omega) fun D2 Hj bj Lj P2=>?_
   dsimp only [aT]
   obtain ⟨pm2,mv2,_,_,n2,_⟩:=tO Ch Lg.ln Lh.ln Lj.ln hcc T1 P2 pmc (.inl ⟨hzX,hz0⟩)
   obtain ⟨k1,_,k1l,k1a,k1n⟩:=vQ Lg.ln T1
   obtain ⟨k2,_,k2l,k2a,k2n⟩:=oC Lh.ln Lj.m P2
   have sti:=aG.new (o:=.tup [.int z0]) htp
   have ecpj:=Li'.lst bj (sti _ _ ecpi)
   have enpj:=bj _ _ nx.symm na.symm nh.symm (sti _ _ enpi)
   have Jj:=Li'.jar bj (Ji.same sti)
   have nbx:bp≠x:=fun q=>by have:=Li.d.ins; rw [<- q,ebp] at this; cases this
   have nba:bp≠da:=fun q=>by have:=Li.d.able; rw [Li.ea,<- q,ebp] at this; cases this
   have nbh:bp≠dh:=fun q=>by have:=Li.d.hand; rw [Li.eh,<- q,ebp] at this; cases this
   have ebj:=bj _ _ nbx nba nbh (sti _ _ ebp)
   refine ⟨_,rfl,x,D2.dx,_,rfl,Lj.d.ins,rfl,x,D2,rfl,Lj.d.ins,fun fp hfp=>?_⟩
   dsimp only [aT]
   have sk:=aG.new (o:=.tup [.int D2.ml,.int D2.ma]) hfp
   have efk:upd Hj fp (.tup [.int D2.ml,.int D2.ma]) fp=some (.tup [.int D2.ml,.int D2.ma]):=aA
   generalize upd Hj fp (.tup [.int D2.ml,.int D2.ma])=Hk at sk efk ⊢
   have Lk':=Lj.same sk
   refine ⟨_,rfl,x,D2.dx,_,rfl,Lk'.d.ins,rfl,x,D2,rfl,Lk'.d,fun w2 hw2=>?_⟩
   dsimp only [aT]
   have sl:=sk.trans (aG.new (o:=.dK (kvH D2.nums D2.hs)) hw2)
   have efl:=(aG.new (o:=.dK (kvH D2.nums D2.hs)) hw2) _ _ efk
   have ew2:upd Hk w2 (.dK (kvH D2.nums D2.hs)) w2=some (.dK (kvH D2.nums D2.hs)):=aA
   generalize upd Hk w2 (.dK (kvH D2.nums D2.hs))=Hl at sl ew2 efl ⊢
   have Ll:=Lj.same sl
   have ecpl:=sl _ _ ecpj
   have enpl:=sl _ _ enpj
   have Jl:=Jj.same sl
   have ebl:=sl _ _ ebj
   have hn2:D2.n=((m+1:Nat):Int):=n2.trans hnc
   have hc2:∀ g∈c,0<=g/\g < D2.n:=by rw [n2]; exact hcc
   have ff:=jE Ch Ll.ln hc2 pm2 hz0
   have ld2:=ldc hn2 (oE (Y:=[]) Ch Ll.ln pm2 (by rw [hn2]; exact hall) (by
    have h1:(X.map (hdD D2)++[z0]).Perm (z0::X.map (hdD D2)):=Wo
    rw [ff] at h1; exact h1))
   have hdA2:∀ p∈X++[(D1.nx,[z0])],lk D2.nums D2.hs p.1=some (hdD D2 p):=fun p hp=>(eV Ll.ln (pm2.mem_iff.mpr (Qn _ hp))).1
   have lk0:lk D2.nums D2.hs D1.nx=some z0:=by
    have:=hdA2 (D1.nx,[z0]) (Qn _ (Qm.mpr rfl))
    rw [(dY Ch Ll.ln pm2).1] at this; exact this
   refine oI false (xG (b:=false) (c:=false) (fun Q' q'=>?_) (fun _ H2 s2=>fun Q' q'=>⟨_,rfl,_,rfl,w2,_,rfl,dW (s2 _ _ ew2) lk0,_,rfl,cp,_,0,.int z0,rfl,rfl,SqL.of (s2 _ _ ecpl),at0,rfl,false,by simp,q' _ (aG.refl _)⟩)) (fun hb=>by cases hb) (fun _ Hm sm=>?_)
   ·refine ⟨_,rfl,((m+1:Nat):Int),1,rfl,rfl,((m+1:Nat):Int) - 1,rfl,by omega,by omega,dU (lo:=0) (n:=(((m+1:Nat):Int) - 1).toNat) (fun σ=>∃ v,σ = [v,some (.ref w2),some (.ref np),some (.ref cp)]) (fun i ys H'=>H'=Hl/\ys=(List.replicate i false).map V.bl) (iV (by omega)) ⟨none,rfl⟩ ⟨rfl,rfl⟩ (fun i ys H' z=>by rw [z.2,Qd,Xc]; exact Qi _) ?_ ?_⟩
    ·rintro j ys σ H' hj ⟨v,rfl⟩ ⟨rfl,rfl⟩ hzz
     obtain ⟨p,hp⟩:∃ p,X[j]?=some p:=⟨_,Qb (by omega)⟩
     have h2:=hdA2 p (Jm _ (Qe hp))
     have h3:c[j+1]?=some (hdD D2 p):=by rw [<- ff,Xl,Qg,hp]; rfl
     refine cN ?_
     refine ⟨_,rfl,_,rfl,_,rfl,np,_,rfl,by rw [Zo]; exact dN enpl hp,w2,_,rfl,dW ew2 h2,_,rfl,_,rfl,0+(j:Int),1,rfl,rfl,cp,_,0+(j:Int)+1,.int (hdD D2 p),rfl,rfl,SqL.of ecpl,by rw [show (0:Int)+(j:Int)+1=((j+1:Nat):Int) by omega]; exact cH (by rw [Qg,h3]; rfl),rfl,hzz,⟨_,rfl⟩,rfl,?_⟩
     rw [Yq,Jk]; simp
    ·rintro ys H' ⟨rfl,rfl⟩ pc hpc
     exact ⟨pc,List.replicate (((m+1:Nat):Int) - 1).toNat false,rfl,SqL.of aA,false,by rw [anyF],q' _ (aG.new hpc)⟩
   dsimp only [iQ]
   have Lm:=Ll.same sm
   have tb:∀ {H'},aG Hl H'->SqT K H' bp [.int D1.ml,.int D1.ma]:=fun s=>SqT.of (s _ _ ebl)
   have tf:∀ {H'},aG Hl H'->SqT K H' fp [.int D2.ml,.int D2.ma]:=fun s=>SqT.of (s _ _ efl)
   refine oI false (xG (b:=false) (c:=false) (fun Q' q'=>⟨_,rfl,x,D2.dx,_,rfl,Lm.d.ins,rfl,x,D2,rfl,Lm.d,(ln6 hn2).1,(ln6 hn2).2,fun p1 H1 s1 hp1=>⟨_,rfl,bs,1,rfl,rfl,sz1 _,fun tp htp=>⟨_,rfl,tp,m+1,_,rfl,rfl,SqT.of aA,by omega,by simp,fun q H2 s2 hq=>?_⟩⟩⟩) (fun _ Hn sn=>fun Q' q'=>⟨_,rfl,bp,_,0,.int D1.ml,rfl,rfl,tb (sm.trans sn),rfl,_,rfl,fp,_,0,.int D2.ml,rfl,rfl,tf (sm.trans sn),rfl,D1.ml,D2.ml,rfl,_,rfl,((m+1:Nat):Int),1,rfl,rfl,_,_,rfl,rfl,false,?_,q' _ (aG.refl _)⟩)) (fun hb=>by cases hb) (fun _ Hn sn=>?_)
   ·rw [rpf] at hq
    rw [ld2] at hp1
    refine ⟨.tuple ((List.replicate (m+1) ((bs:Int)+1)).map .int),.tuple ((List.replicate (m+1) ((bs:Int)+1)).map .int),bP.mpr ⟨p1,rfl,s2.seqT ((aG.new htp).seqT (SqT.of hp1))⟩,bP.mpr ⟨q,rfl,hq⟩,cQ _,cQ _,bR _,bR _,false,?_,q' _ ((s1.trans (aG.new htp)).trans s2)⟩
    rw [PySem.SeqAt.eqv_refl _ (SeqAt.canLay_of_shaped (bR _))]; rfl
   ·show V.bl (decide (((m+1:Nat):Int) - 1 < (if D2.ml > D1.ml then D2.ml else D1.ml)))=_
    rw [decide_eq_false (by split <;> omega)]
   dsimp only [iQ]
   have sln:=sm.trans sn
   refine oI false (xG (b:=false) (c:=false) (fun Q' q'=>⟨_,rfl,fp,_,1,.int D2.ma,rfl,rfl,tf sln,rfl,_,rfl,D2.ma,Dc.ma,rfl,rfl,_,rfl,((m+1:Nat):Int),1,rfl,rfl,_,_,rfl,rfl,false,by show V.bl (decide (D2.ma - Dc.ma < ((m+1:Nat):Int) - 1))=_; rw [decide_eq_false (by rw [hXl] at mv2; omega)],q' _ (aG.refl _)⟩) (fun _ Ho so=>fun Q' q'=>⟨_,rfl,bp,_,1,.int D1.ma,rfl,rfl,tb (sln.trans so),rfl,_,rfl,D1.ma,Dc.ma,rfl,rfl,_,rfl,bp,_,0,.int D1.ml,rfl,rfl,tb (sln.trans so),rfl,rfl,false,by show (V.bl !decide (V.int (D1.ma - Dc.ma)=V.int D1.ml))=_; rw [show D1.ma - Dc.ma=D1.ml by omega]; simp,q' _ (aG.refl _)⟩)) (fun hb=>by cases hb) (fun _ Ho so=>?_)
   dsimp only [iQ]
   have slo:=sln.trans so
   refine ⟨_,rfl,fp,_,1,.int D2.ma,rfl,rfl,tf slo,rfl,_,rfl,bp,_,1,.int D1.ma,rfl,rfl,tb slo,rfl,D2.ma,D1.ma,rfl,rfl,_,rfl,fp,_,0,.int D2.ml,rfl,rfl,tf slo,rfl,rfl,_,rfl,jV (by show (!decide (V.int (D2.ma - D1.ma)=V.int D2.ml))=false; rw [show D2.ma - D1.ma=D2.ml by omega]; simp) ?_⟩
   refine ⟨_,rfl,_,rfl,_,rfl,t,a,cp,ns,_,bs,m,c,rfl,Jl.same slo,by omega,slo _ _ ecpl,nct,hcu,hm1,hm5,hb12,slo _ _ Ll.pt,fun Hp bp' Jp=>⟨true,rfl,uE ?_⟩⟩
   obtain ⟨xsl,etl⟩:=(Jl.same slo).lst
   refine ⟨⟨_,_,_,_,_,_,_,_,_,_,_,_,_,_,rfl⟩,Jp.more (by omega),bp' _ _ (fun q=>?_) (slo _ _ Ll.pt)⟩
   have:=slo _ _ Ll.pt
   rw [q,etl] at this
   cases this
  ·rintro σ H2 ⟨_,J2,p2⟩
   exact k _ p2
end
end Ab
namespace Ab
open PySem L2 PyProof.Rows
theorem fF {K:PySem.W.Frag} {h:Heap} {mg:Str->Option Value} (X:K.In h) (G:h.Ns mainGlobals mg) {x:Str} {st:Stmt} {ps:List Str} {f:Addr} {oc:Value} {od an:Option Addr} {osl:Array (Option Value)} {kV doc pm cdv ct:Value}
  (hb:∀ (kV doc pm:Value) (an:Option Addr) (cdv ct:Value) (us:List Value),us.length=ps.length->bindArgs (PySem.W.fnOf x x (eA st) (cU st) (aI st) .none kV doc pm an cdv ct) ⟨us,[]⟩=pure (ps.zip us))
  (a:PySem.W.nsIn K mainGlobals x=some (some (.ref f))) (l:K.lookup f=some ⟨oc,od,.func (PySem.W.fnOf x x (eA st) (cU st) (aI st) .none kV doc pm an cdv ct),osl⟩) (c:PySem.W.codeIn K cdv x=true) (k:PySem.W.keepIn K (.ref f)=true) :
  ∃ f fd,Fn K mg x st ps f fd:=by
 have F:=uD (st:=st) l c k
 exact ⟨f,_,F,PySem.W.mg_of X G a,k,F.binds hb⟩
theorem aBX {K:PySem.W.Frag} {h:Heap} {mg:Str->Option Value} (X:K.In h) (G:h.Ns mainGlobals mg) {x:Str} {st:Stmt} {ps:List Str} {f:Addr} {oc:Value} {od an:Option Addr} {osl:Array (Option Value)} {kV doc pm cdv ct:Value}
  (hb:∀ (kV doc pm:Value) (an:Option Addr) (cdv ct:Value) (us:List Value),us.length=ps.length->bindArgs (PySem.W.fnOf x x (eA st) (cU st) (aI st) .none kV doc pm an cdv ct) ⟨us,[]⟩=pure (ps.zip us))
  (a:PySem.W.nsIn K mainGlobals x=some (some (.ref f))) (l:K.lookup f=some ⟨oc,od,.func (PySem.W.fnOf x x (eA st) (cU st) (aI st) .none kV doc pm an cdv ct),osl⟩) (c:PySem.W.codeIn K cdv x=true) (k:PySem.W.keepIn K (.ref f)=true) :
  ∃ f fd,Fn K mg x st ps f fd/\fd.code=cdv:=by
 have F:=uD (st:=st) l c k
 exact ⟨f,_,⟨F,PySem.W.mg_of X G a,k,F.binds hb⟩,rfl⟩
theorem aCC {K:PySem.W.Frag} {h:Heap} {mg:Str->Option Value} (X:K.In h) (G:h.Ns mainGlobals mg) {t6 t12:Tok}
  (z0:PySem.W.nsIn K mainGlobals "isinstance" = some none)
  (z1:PySem.W.nsIn K mainGlobals "int" = some none)
  (z2:PySem.W.nsIn K mainGlobals "bool" = some none)
  (z3:PySem.W.nsIn K mainGlobals "tuple" = some none)
  (z4:PySem.W.nsIn K mainGlobals "list" = some none)
  (z5:PySem.W.nsIn K mainGlobals "len" = some none)
  (z6:PySem.W.nsIn K mainGlobals "all" = some none)
  (z7:PySem.W.nsIn K mainGlobals "zip" = some none)
  (z8:PySem.W.nsIn K mainGlobals "range" = some none)
  (z9:PySem.W.nsIn K mainGlobals "sorted" = some none)
  (z10:PySem.W.nsIn K mainGlobals "set" = some none)
  (z11:PySem.W.nsIn K mainGlobals "sum" = some none)
  (z12:PySem.W.nsIn K mainGlobals "repr" = some none)
  (z13:PySem.W.nsIn K mainGlobals "enumerate" = some none)
  (z14:PySem.W.nsIn K mainGlobals "min" = some none)
  (z15:PySem.W.nsIn K mainGlobals "any" = some none)
  (z16:PySem.W.nsIn K mainGlobals "dict" = some none)
  (z17:PySem.W.nsIn K mainGlobals "max" = some none)
  (zA:PySem.W.nsIn K mainGlobals "MOST_HANDS" = some (some (.int 6 t6))) (zB:PySem.W.nsIn K mainGlobals "MOST_WORKS" = some (some (.int 12 t12))):Bl mg :=
 ⟨PySem.W.mg_none_of X G z0,PySem.W.mg_none_of X G z1,PySem.W.mg_none_of X G z2,PySem.W.mg_none_of X G z3,PySem.W.mg_none_of X G z4,PySem.W.mg_none_of X G z5,PySem.W.mg_none_of X G z6,PySem.W.mg_none_of X G z7,PySem.W.mg_none_of X G z8,PySem.W.mg_none_of X G z9,PySem.W.mg_none_of X G z10,PySem.W.mg_none_of X G z11,PySem.W.mg_none_of X G z12,PySem.W.mg_none_of X G z13,PySem.W.mg_none_of X G z14,PySem.W.mg_none_of X G z15,PySem.W.mg_none_of X G z16,PySem.W.mg_none_of X G z17,⟨_,PySem.W.mg_of X G zA⟩,⟨_,PySem.W.mg_of X G zB⟩⟩
theorem iX {K:PySem.W.Frag} {C:Addr} {x:Str} {st:Stmt} {ps:List Str} {f:Addr} {oc:Value} {od an:Option Addr} {osl:Array (Option Value)} {kV doc pm cdv ct:Value}
  (hb:∀ (kV doc pm:Value) (an:Option Addr) (cdv ct:Value) (us:List Value),us.length=ps.length->bindArgs (PySem.W.fnOf x (("Dealing." : Str)++x) (eA st) (cU st) (aI st) .none kV doc pm an cdv ct) ⟨us,[]⟩=pure (ps.zip us))
  (a:PySem.W.findIn K (.ref C) x=some (some (.ref f))) (i:PySem.W.isFn K (.ref f)=true) (l:K.lookup f=some ⟨oc,od,.func (PySem.W.fnOf x (("Dealing." : Str)++x) (eA st) (cU st) (aI st) .none kV doc pm an cdv ct),osl⟩) (c:PySem.W.codeIn K cdv (("Dealing." : Str)++x)=true) (k:PySem.W.keepIn K (.ref f)=true) :
  ∃ f fd,Mt K C x st ps f fd:=by
 have F:=uD (st:=st) l c k
 exact ⟨f,_,F,⟨a,i,k⟩,F.binds hb⟩
theorem aCD {K:PySem.W.Frag} {h:Heap} {mg:Str->Option Value} (X:K.In h) (G:h.Ns mainGlobals mg) {C f0:Addr} (cg:PySem.W.nsIn K mainGlobals "Dealing" = some (some (.ref C))) (pg:PySem.W.plainGet K C Str.empty=true) (hd:PySem.W.hasDictIn K C=true) (po:PySem.W.plainOver K C=true) (sa:PySem.W.findIn K (.ref C) "__setattr__" = some (some (.builtin "object.__setattr__")))
  (n1:PySem.W.findIn K (.ref C) "many_hands" = some none) (n2:PySem.W.findIn K (.ref C) "able_of" = some none) (n3:PySem.W.findIn K (.ref C) "hand_of" = some none) (n4:PySem.W.findIn K (.ref C) "next_number" = some none) (n5:PySem.W.findIn K (.ref C) "moved_last" = some none) (n6:PySem.W.findIn K (.ref C) "moved_in_all" = some none)
  (m1:PySem.W.makesIn K C=true) (m2:PySem.W.findIn K (.ref C) "__init__" = some (some (.ref f0))) (m3:PySem.W.isFn K (.ref f0)=true) (m4:PySem.W.keepIn K (.ref C)=true)
  (hIn:∃ f fd,Mt K C "__init__" kZ ["self", "hands"] f fd) (hBn:∃ f fd,Mt K C "book_now" mW ["self"] f fd) (hDn:∃ f fd,Mt K C "deal_now" hV ["self"] f fd) (hCm:∃ f fd,Mt K C "count_moved" iA ["self", "many"] f fd) (hPu:∃ f fd,Mt K C "put" sU ["self", "able"] f fd) (hTa:∃ f fd,Mt K C "take" lA ["self", "number"] f fd) (hCo:∃ f fd,Mt K C "come" pK ["self"] f fd) (hDe:∃ f fd,Mt K C "deal" mX ["self"] f fd) (hLo:∃ f fd,Mt K C "loads" jD ["self"] f fd) (hMo:∃ f fd,Mt K C "moved" iB ["self"] f fd) :
  ∃ Cc,Dc K Cc/\mg "Dealing" = some (.ref Cc)/\(∃ f fd,Mk K Cc f/\Mt K Cc "__init__" kZ ["self", "hands"] f fd)/\(∃ f fd,Mt K Cc "book_now" mW ["self"] f fd)/\(∃ f fd,Mt K Cc "deal_now" hV ["self"] f fd)/\(∃ f fd,Mt K Cc "count_moved" iA ["self", "many"] f fd)/\(∃ f fd,Mt K Cc "put" sU ["self", "able"] f fd)/\(∃ f fd,Mt K Cc "take" lA ["self", "number"] f fd)/\(∃ f fd,Mt K Cc "come" pK ["self"] f fd)/\(∃ f fd,Mt K Cc "deal" mX ["self"] f fd)/\(∃ f fd,Mt K Cc "loads" jD ["self"] f fd)/\(∃ f fd,Mt K Cc "moved" iB ["self"] f fd):=by
 obtain ⟨f,fd,M⟩:=hIn
 have e:f=f0:=by
  have:=M.me.at_.symm.trans m2
  injection this with this
  injection this with this
  injection this
 subst e
 exact ⟨C,⟨⟨pg,hd,po,sa⟩,n1,n2,n3,n4,n5,n6⟩,PySem.W.mg_of X G cg,⟨f,fd,⟨m1,m2,m3,m4⟩,M⟩,hBn,hDn,hCm,hPu,hTa,hCo,hDe,hLo,hMo⟩
theorem aA1 {l:PySem.W.OpenLaw} {w:World} {K:PySem.W.Frag} {mg:Str->Option Value} {fa c Pt:Addr} (hfa:mg "law" = some (.ref fa)) (B:Bl mg)
  (hCl:∃ Cc,Dc K Cc/\mg "Dealing" = some (.ref Cc)/\(∃ f fd,Mk K Cc f/\Mt K Cc "__init__" kZ ["self", "hands"] f fd)/\(∃ f fd,Mt K Cc "book_now" mW ["self"] f fd)/\(∃ f fd,Mt K Cc "deal_now" hV ["self"] f fd)/\(∃ f fd,Mt K Cc "count_moved" iA ["self", "many"] f fd)/\(∃ f fd,Mt K Cc "put" sU ["self", "able"] f fd)/\(∃ f fd,Mt K Cc "take" lA ["self", "number"] f fd)/\(∃ f fd,Mt K Cc "come" pK ["self"] f fd)/\(∃ f fd,Mt K Cc "deal" mX ["self"] f fd)/\(∃ f fd,Mt K Cc "loads" jD ["self"] f fd)/\(∃ f fd,Mt K Cc "moved" iB ["self"] f fd))
  (hST:∃ f fd,Fn K mg "steps_to_least" fV ["book", "deal", "able", "measures"] f fd/\fd.code=.ref c) (hZ:∀ base:Heap,base.BuiltinsAt mg Pt->Lm K mg base c Pt)
  (hW:∃ f fd,Fn K mg "is_whole" jC ["thing"] f fd)
  (hH:∃ f fd,Fn K mg "are_hands" mY ["thing"] f fd)
  (hKw:∃ f fd,Fn K mg "is_work" mZ ["hands", "thing"] f fd)
  (hC:∃ f fd,Fn K mg "counted" eS ["hands", "deal"] f fd)
  (hHD:∃ f fd,Fn K mg "handing" fU ["book", "deal"] f fd)
  (hRC:∃ f fd,Fn K mg "reached" iC ["rows", "first"] f fd)
  (hWT:∃ f fd,Fn K mg "way_to" nB ["found", "last"] f fd)
  (hTK:∃ f fd,Fn K mg "steps_of_take" jR ["book", "deal", "work"] f fd)
  (hWH:∃ f fd,Fn K mg "_law_e_whirl" qV ["cell", "at"] f fd)
  (hSC:∃ f fd,Fn K mg "_law_e_scoop" kM ["jar", "many"] f fd)
  (hOR:∃ f fd,Fn K mg "_law_e_order" kL ["jar", "some"] f fd)
  (hUN:∃ f fd,Fn K mg "_law_e_unseen_right" jP ["jar", "called", "base"] f fd)
  (hSI:∃ f fd,Fn K mg "_law_e_single_right" jQ ["called"] f fd)
  (hLW:∃ f fd,Fn K mg "law" zE ["script"] f fd)
  : ∃ fd:FuncData,(∀ (s:Shared) (v:Value),BindsTo s fd ⟨[v],[]⟩ [("script",v)])/\∀ base:Heap,K.In base->base.Ns mainGlobals mg->base.BuiltinsAt mg Pt->FnOk l.prog w K mg base CX0 7 fa fd ["script"] (vU K Pt):=by
 obtain ⟨fST,dST,ST,hc⟩:=hST
 obtain ⟨fW,dW,W⟩:=hW
 obtain ⟨fH,dH,H⟩:=hH
 obtain ⟨fKw,dKw,Kw⟩:=hKw
 obtain ⟨fC,dC,C⟩:=hC
 obtain ⟨fHD,dHD,HD⟩:=hHD
 obtain ⟨fRC,dRC,RC⟩:=hRC
 obtain ⟨fWT,dWT,WT⟩:=hWT
 obtain ⟨fTK,dTK,TK⟩:=hTK
 obtain ⟨fWH,dWH,WH⟩:=hWH
 obtain ⟨fSC,dSC,SC⟩:=hSC
 obtain ⟨fOR,dOR,OR⟩:=hOR
 obtain ⟨fUN,dUN,UN⟩:=hUN
 obtain ⟨fSI,dSI,SI⟩:=hSI
 obtain ⟨fLW,dLW,LW⟩:=hLW
 obtain ⟨Cc,T,hmC,⟨fIn,dIn,MK,mIn⟩,⟨fBn,dBn,mBn⟩,⟨fDn,dDn,mDn⟩,⟨fCm,dCm,mCm⟩,⟨fPu,dPu,mPu⟩,⟨fTa,dTa,mTa⟩,⟨fCo,dCo,mCo⟩,⟨fDe,dDe,mDe⟩,⟨fLo,dLo,mLo⟩,⟨fMo,dMo,mMo⟩⟩:=hCl
 have e:=hfa.symm.trans LW.mgx
 cases e
 refine ⟨dLW,fun s v=>?_,fun base _ _ hBu=>?_⟩
 ·obtain ⟨oc,od,kV,doc,pm,an,cdv,ct,osl,rfl,lk,hcd⟩:=LW.fn.ex
  exact .of_eq rfl
 ·have Z:=hZ base hBu
  have OW:FnOk l.prog w K mg base CX0 1 fW dW ["thing"] (jS K):=nD W B
  have OH:FnOk l.prog w K mg base CX0 2 fH dH ["thing"] (qW K):=zF H B W
  have OKw:FnOk l.prog w K mg base CX0 2 fKw dKw ["hands", "thing"] (qX K):=zG Kw B W
  have OC:FnOk l.prog w K mg base CX0 1 fC dC ["hands", "deal"] (iK K):=nH C B
  have OST:FnOk l.prog w K mg base CX0 2 fST dST ["book", "deal", "able", "measures"] (rE K Pt):=zL ST hc Z B HD RC WT
  have OTK:FnOk l.prog w K mg base CX0 2 fTK dTK ["book", "deal", "work"] (rF K):=zM TK B C HD RC WT
  have OBn:FnOk l.prog w K mg base CX0 1 fBn dBn ["self"] (lR K Cc):=zQ mBn T B
  have ODn:FnOk l.prog w K mg base CX0 1 fDn dDn ["self"] (jW K Cc):=zR mDn T B
  have OCm:FnOk l.prog w K mg base CX0 1 fCm dCm ["self", "many"] (jX K Cc):=zS mCm T
  have OLo:FnOk l.prog w K mg base CX0 2 fLo dLo ["self"] (jY K Cc):=xC mLo T mDn ODn C OC
  have OPu:FnOk l.prog w K mg base CX0 3 fPu dPu ["self", "able"] (nV K Cc Pt):=aBP mPu T B Kw OKw mBn OBn mDn ODn mLo OLo ST OST mCm OCm
  have OTa:FnOk l.prog w K mg base CX0 3 fTa dTa ["self", "number"] (kQ K Cc):=aAU mTa T B W OW mBn OBn mDn ODn TK OTK mCm OCm
  have OCo:FnOk l.prog w K mg base CX0 2 fCo dCo ["self"] (rJ K Cc):=zW mCo T B mCm OCm
  have ODe:FnOk l.prog w K mg base CX0 1 fDe dDe ["self"] (lS K Cc):=zV mDe T B
  have OMo:FnOk l.prog w K mg base CX0 1 fMo dMo ["self"] (jZ K Cc):=zU mMo T
  have OIn:FnOk l.prog w K mg base CX0 3 fIn dIn ["self", "hands"] (nX K Cc):=aAW mIn T B H OH
  have OSC:FnOk l.prog w K mg base CX0 2 fSC dSC ["jar", "many"] (jU K):=zK SC B WH
  have OOR:FnOk l.prog w K mg base CX0 3 fOR dOR ["jar", "some"] (lV K):=aAe OR B SC OSC
  have OSI:FnOk l.prog w K mg base CX0 5 fSI dSI ["called"] (oF K Pt):=xF SI T B MK hmC mIn OIn mPu OPu mTa OTa mMo OMo
  have OUN:FnOk l.prog w K mg base CX0 6 fUN dUN ["jar", "called", "base"] (oJ K Pt):=xH UN T B MK hmC mIn OIn mPu OPu mTa OTa mMo OMo mCo OCo mDe ODe SC OSC OR OOR SI OSI
  exact aBW LW T B MK hmC mIn OIn mPu OPu mTa OTa mMo OMo mDe ODe mLo OLo SC OSC OR OOR UN OUN
theorem walk {l:PySem.W.OpenLaw} {q:Program} {loose:List Str} {XP:(Str->Option Value)->Heap->Prop} {YP:World->Heap->Prop} {d:DefRec} {K:Params->PySem.W.Frag} {c Pt:Addr} (hn:l.most=some 63) (hdf:d.params.defaults = []) (hq:importsNone q=true)
  (hY:∀ (w:World) (h:Heap),YP w h->(K w.params).In h) (hT:∀ (w:World) (h:Heap),YP w h->h.get? Pt=some (PySem.W.tabObj #[]))
  (F:(∀ w:World,PySem.W.codeHdIn (K w.params) c Pt=true)->∀ (w:World) (mg:Str->Option Value) (fa:Addr) (h:Heap),(K w.params).In h->h.Ns mainGlobals mg->mg d.name=some (.ref fa) ->
   ∃ fd:FuncData,(∀ (s:Shared) (u:Value),BindsTo s fd ⟨[u],[]⟩ [("script",u)])/\∀ base:Heap,(K w.params).In base->base.Ns mainGlobals mg->base.BuiltinsAt mg Pt->FnOk l.prog w (K w.params) mg base CX0 7 fa fd ["script"] (vU (K w.params) Pt))
  (hKP:∀ w:World,(K w.params).lookup Pt=none) (hC:∀ w:World,PySem.W.codeHdIn (K w.params) c Pt=true) :
  PySem.W.WalkO q loose XP YP l.row.toRowW d [] (fun f vs=>PySem.call f vs) :=
 L2.yR (n:=63) (k:=7) (x := "script") (CX:=fun _=>CX0) (sp:=fun w=>vU (K w.params) Pt) (ts:=[(Pt,nR)]) hn (by decide) hdf ⟨rfl,by decide,by decide,rfl⟩ hq hY
  (fun w h Y p hp=>by rw [Qm.mp hp]; exact ⟨hT w h Y,hKP w,c,PySem.W.codeHd_of_K (hY w h Y) (hC w)⟩) (by simp) (fun w mg fa h a b d=>let ⟨fd,h1,h2⟩:=F hC w mg fa h a b d; ⟨fd,h1,fun base k1 k2 k3=>h2 base k1 k2 (k3 _ (Qr ..))⟩)
  (fun _ _ a ns _ hO hS=>⟨a,ns,rfl,hS,hO.2 _ (Qr ..),fun H' h=>⟨rfl,fun p hp=>by rw [Qm.mp hp]; exact h⟩⟩) fun _ _ _ _ _ z=>z
end Ab
open PySem PySem.W PyProof.Rows
set_option maxRecDepth 100000 in
set_option maxHeartbeats 0 in
theorem PySem.Challenge.cw_ablehands_k44_one_long_way_holds : PySem.Challenge.rw_ablehands_k44_one_long_way.Holds := by
 w_on; o_law; k_head; (case hw=>w_witness2)
 k_fill
 refine' Ab.walk (l:=PySem.Challenge.rw_ablehands_k44_one_long_way) rfl rfl (by decide +kernel) (fun w h Y=>PySem.W.km_in_of Y) (fun w h Y=>PySem.W.km_tabs_of Y _ (Qr ..)) ?F ?KP ?HC
 case F =>
  intro hC w mg fa h KX G hmg
  refine' Ab.aA1 hmg ?B ?Cl ?hST ?Z ?hW ?hH ?hKw ?hC ?hHD ?hRC ?hWT ?hTK ?hWH ?hSC ?hOR ?hUN ?hSI ?hLW
  case Z =>
   intro base hb
   exact ⟨hC w,by decide,hb⟩
  case hST =>
   refine' Ab.aBX KX G (fun _ _ _ _ _ _ us hl=>match us,hl with | [_,_,_,_],_=>rfl) ?a ?l ?c ?k
   (case a=>k_is); (case l=>k_is); (case c=>k_is); (case k=>k_is)
  case Cl =>
   refine' Ab.aCD KX G ?cg ?pg ?hd ?po ?sa ?n1 ?n2 ?n3 ?n4 ?n5 ?n6 ?m1 ?m2 ?m3 ?m4 ?hIn ?hBn ?hDn ?hCm ?hPu ?hTa ?hCo ?hDe ?hLo ?hMo
   (case cg=>k_is)
   (case pg=>k_is)
   (case hd=>k_is)
   (case po=>k_is)
   (case sa=>k_is)
   (case n1=>k_is)
   (case n2=>k_is)
   (case n3=>k_is)
   (case n4=>k_is)
   (case n5=>k_is)
   (case n6=>k_is)
   (case m1=>k_is)
   (case m2=>k_is)
   (case m3=>k_is)
   (case m4=>k_is)
   case hIn =>
    refine' Ab.iX (fun _ _ _ _ _ _ us hl=>match us,hl with | [_,_],_=>rfl) ?a ?i ?l ?c ?k
    (case a=>k_is); (case i=>k_is); (case l=>k_is); (case c=>k_is); (case k=>k_is)
   case hBn =>
    refine' Ab.iX (fun _ _ _ _ _ _ us hl=>match us,hl with | [_],_=>rfl) ?a ?i ?l ?c ?k
    (case a=>k_is); (case i=>k_is); (case l=>k_is); (case c=>k_is); (case k=>k_is)
   case hDn =>
    refine' Ab.iX (fun _ _ _ _ _ _ us hl=>match us,hl with | [_],_=>rfl) ?a ?i ?l ?c ?k
    (case a=>k_is); (case i=>k_is); (case l=>k_is); (case c=>k_is); (case k=>k_is)
   case hCm =>
    refine' Ab.iX (fun _ _ _ _ _ _ us hl=>match us,hl with | [_,_],_=>rfl) ?a ?i ?l ?c ?k
    (case a=>k_is); (case i=>k_is); (case l=>k_is); (case c=>k_is); (case k=>k_is)
   case hPu =>
    refine' Ab.iX (fun _ _ _ _ _ _ us hl=>match us,hl with | [_,_],_=>rfl) ?a ?i ?l ?c ?k
    (case a=>k_is); (case i=>k_is); (case l=>k_is); (case c=>k_is); (case k=>k_is)
   case hTa =>
    refine' Ab.iX (fun _ _ _ _ _ _ us hl=>match us,hl with | [_,_],_=>rfl) ?a ?i ?l ?c ?k
    (case a=>k_is); (case i=>k_is); (case l=>k_is); (case c=>k_is); (case k=>k_is)
   case hCo =>
    refine' Ab.iX (fun _ _ _ _ _ _ us hl=>match us,hl with | [_],_=>rfl) ?a ?i ?l ?c ?k
    (case a=>k_is); (case i=>k_is); (case l=>k_is); (case c=>k_is); (case k=>k_is)
   case hDe =>
    refine' Ab.iX (fun _ _ _ _ _ _ us hl=>match us,hl with | [_],_=>rfl) ?a ?i ?l ?c ?k
    (case a=>k_is); (case i=>k_is); (case l=>k_is); (case c=>k_is); (case k=>k_is)
   case hLo =>
    refine' Ab.iX (fun _ _ _ _ _ _ us hl=>match us,hl with | [_],_=>rfl) ?a ?i ?l ?c ?k
    (case a=>k_is); (case i=>k_is); (case l=>k_is); (case c=>k_is); (case k=>k_is)
   case hMo =>
    refine' Ab.iX (fun _ _ _ _ _ _ us hl=>match us,hl with | [_],_=>rfl) ?a ?i ?l ?c ?k
    (case a=>k_is); (case i=>k_is); (case l=>k_is); (case c=>k_is); (case k=>k_is)
  case B =>
   refine' Ab.aCC KX G ?z0 ?z1 ?z2 ?z3 ?z4 ?z5 ?z6 ?z7 ?z8 ?z9 ?z10 ?z11 ?z12 ?z13 ?z14 ?z15 ?z16 ?z17 ?zA ?zB
   (case z0=>k_is)
   (case z1=>k_is)
   (case z2=>k_is)
   (case z3=>k_is)
   (case z4=>k_is)
   (case z5=>k_is)
   (case z6=>k_is)
   (case z7=>k_is)
   (case z8=>k_is)
   (case z9=>k_is)
   (case z10=>k_is)
   (case z11=>k_is)
   (case z12=>k_is)
   (case z13=>k_is)
   (case z14=>k_is)
   (case z15=>k_is)
   (case z16=>k_is)
   (case z17=>k_is)
   (case zA=>k_is)
   (case zB=>k_is)
  case hW =>
   refine' Ab.fF KX G (fun _ _ _ _ _ _ us hl=>match us,hl with | [_],_=>rfl) ?a ?l ?c ?k
   (case a=>k_is); (case l=>k_is); (case c=>k_is); (case k=>k_is)
  case hH =>
   refine' Ab.fF KX G (fun _ _ _ _ _ _ us hl=>match us,hl with | [_],_=>rfl) ?a ?l ?c ?k
   (case a=>k_is); (case l=>k_is); (case c=>k_is); (case k=>k_is)
  case hKw =>
   refine' Ab.fF KX G (fun _ _ _ _ _ _ us hl=>match us,hl with | [_,_],_=>rfl) ?a ?l ?c ?k
   (case a=>k_is); (case l=>k_is); (case c=>k_is); (case k=>k_is)
  case hC =>
   refine' Ab.fF KX G (fun _ _ _ _ _ _ us hl=>match us,hl with | [_,_],_=>rfl) ?a ?l ?c ?k
   (case a=>k_is); (case l=>k_is); (case c=>k_is); (case k=>k_is)
  case hHD =>
   refine' Ab.fF KX G (fun _ _ _ _ _ _ us hl=>match us,hl with | [_,_],_=>rfl) ?a ?l ?c ?k
   (case a=>k_is); (case l=>k_is); (case c=>k_is); (case k=>k_is)
  case hRC =>
   refine' Ab.fF KX G (fun _ _ _ _ _ _ us hl=>match us,hl with | [_,_],_=>rfl) ?a ?l ?c ?k
   (case a=>k_is); (case l=>k_is); (case c=>k_is); (case k=>k_is)
  case hWT =>
   refine' Ab.fF KX G (fun _ _ _ _ _ _ us hl=>match us,hl with | [_,_],_=>rfl) ?a ?l ?c ?k
   (case a=>k_is); (case l=>k_is); (case c=>k_is); (case k=>k_is)
  case hTK =>
   refine' Ab.fF KX G (fun _ _ _ _ _ _ us hl=>match us,hl with | [_,_,_],_=>rfl) ?a ?l ?c ?k
   (case a=>k_is); (case l=>k_is); (case c=>k_is); (case k=>k_is)
  case hWH =>
   refine' Ab.fF KX G (fun _ _ _ _ _ _ us hl=>match us,hl with | [_,_],_=>rfl) ?a ?l ?c ?k
   (case a=>k_is); (case l=>k_is); (case c=>k_is); (case k=>k_is)
  case hSC =>
   refine' Ab.fF KX G (fun _ _ _ _ _ _ us hl=>match us,hl with | [_,_],_=>rfl) ?a ?l ?c ?k
   (case a=>k_is); (case l=>k_is); (case c=>k_is); (case k=>k_is)
  case hOR =>
   refine' Ab.fF KX G (fun _ _ _ _ _ _ us hl=>match us,hl with | [_,_],_=>rfl) ?a ?l ?c ?k
   (case a=>k_is); (case l=>k_is); (case c=>k_is); (case k=>k_is)
  case hUN =>
   refine' Ab.fF KX G (fun _ _ _ _ _ _ us hl=>match us,hl with | [_,_,_],_=>rfl) ?a ?l ?c ?k
   (case a=>k_is); (case l=>k_is); (case c=>k_is); (case k=>k_is)
  case hSI =>
   refine' Ab.fF KX G (fun _ _ _ _ _ _ us hl=>match us,hl with | [_],_=>rfl) ?a ?l ?c ?k
   (case a=>k_is); (case l=>k_is); (case c=>k_is); (case k=>k_is)
  case hLW =>
   refine' Ab.fF KX G (fun _ _ _ _ _ _ us hl=>match us,hl with | [_],_=>rfl) ?a ?l ?c ?k
   (case a=>k_is); (case l=>k_is); (case c=>k_is); (case k=>k_is)
 case KP=>intro w; first | k_is | kernel_rfl
 case HC=>intro w; kernel_rfl
