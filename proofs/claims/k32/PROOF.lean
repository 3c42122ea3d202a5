import PyProof.Rows.All
import Wide.All
import OpenK.AllK
import Wide.FinOn
import PyProof.EqAt
import PyProof.EqKinds
import PyProof.TupleCall
import PyProof.DictCompW
import PyProof.WalksMore
import PyProof.MinMaxWalk
import PyProof.DictDisplay
import PyProof.DictWalks
import Lean
import PySem.Challenge.RW_ablehands_k32_cheapest_deals
open PySem.Heap renaming get?_push_of_some -> Qa,get?_push_size -> Qi,lt_size -> Ql,size_push -> Jg,get?_update_other -> Ju,get?_update_self -> Xs
open List renaming length_map -> Qb,getElem?_eq_getElem -> Qc,getElem?_eq_some_iff -> Qd,mem_of_getElem? -> Qe,getElem?_map -> Qg,size_toArray -> Qj,length_append -> Qk,mem_cons -> Qm,getD_eq_getElem?_getD -> Qn,not_mem_nil -> Qo,mem_cons_self -> Qq,mem_cons_of_mem -> Qr,getElem?_append_left -> Qs,mem_append_right -> Qt,mem_singleton -> Qu,getElem?_append_right -> Qw,map_append -> Qx,mem_iff_getElem? -> Qy,length_take -> Ja,all_eq_true -> Jd,take_of_length_le -> Jf,take_succ -> Jh,length_replicate -> Ji,map_cons -> Jj,mem_append -> Jk,mem_append_left -> Jl,mem_map -> Jm,getElem?_zip_eq_some -> Jn,getElem?_replicate -> Jp,mem_range -> Jr,take_length -> Js,length_reverse -> Jt,length_cons -> Jv,count_le_length -> Jz,lookup_cons -> Xa,mem_of_mem_take -> Xb,length_drop -> Xd,getElem_mem -> Xg,flatten_replicate_singleton -> Xh,getElem?_set -> Xi,length_set -> Xk,forIn_cons -> Xl,count_cons -> Xo,nodup_cons -> Xq,forIn_nil -> Xt,all_map -> Xu,filterMap_cons -> Xv,replicate_succ -> Xw,length_eq_zero_iff -> Xx,zipIdx_cons -> Xy,mem_filter -> Za,nil_append -> Zb,zipIdx_nil -> Zc,getElem?_reverse -> Zd,find?_cons -> Ze,flatten_cons -> Zf,length_range -> Zg,take_zero -> Zh,pairwise_iff_getElem -> Zi,any_eq_true -> Zk,getElem?_range -> Zm,eq_of_mem_replicate -> Zo,map_map -> Zp,append_nil -> Zr,filter_append -> Zt,reverse_cons -> Zu,append_assoc -> Zv,nodup_append -> Zw,take_append_drop -> Zy,getElem?_eq_none -> Zz,cons_append -> Ya,map_reverse -> Yb,getElem?_set_ne -> Yc,replicate_succ' -> Yd,any_cons -> Ye,of_mem_zip -> Yf,foldr_cons -> Yg,map_congr_left -> Yi,length_pos_iff -> Yj,pairwise_cons -> Yo,getElem?_drop -> Yp,map_replicate -> Yq,getElem?_take -> Yr,drop_eq_getElem_cons -> Ys,getElem?_eq_none_iff -> Yt,count_nil -> Yu,mem_reverse -> Yz,getElem?_set_self -> Wa,drop_of_length_le -> Wb,length_filter_le -> We,set_append_right -> Wf,count_singleton -> Wg,drop_zero -> Wi,length -> Wj,toList_toArray -> Wl,reverse_append -> Wm,flatten_append -> Wn,mem_filterMap -> Wo,filterMap_map -> Wp,map_take -> Wq,map_nil -> Wu,any_map -> Wy
open Nat renaming le_refl -> Qh,lt_of_lt_of_le -> Qp,le_trans -> Qz,lt_irrefl -> Jb,ne_of_lt -> Je,zero_le -> Jo,le_add_right -> Jx,lt_succ_of_lt -> Jy,sub_self -> Xf,ne_of_gt -> Xj,lt_succ_self -> Zj,le_of_lt -> Zn,lt_of_le_of_lt -> Zs,min_eq_left -> Yh,not_lt_zero -> Yk,eq_zero_or_pos -> Ym,succ_le_succ -> Yx,min_eq_right -> Yy,lt_or_ge -> Wd,le_succ -> Wk,sub_zero -> Wv,min_self -> Ww,le_of_eq -> Wx
open Bool renaming false_ne_true -> Qv,and_eq_true -> Jc,eq_iff_iff -> Xc,true_and -> Xe,false_eq_true -> Xz,not_eq_true -> Zl,false_and -> Wh
open Int renaming le_refl -> Jq,toNat_natCast -> Jw,natCast_add -> Xn,zero_add -> Xp,toNat_of_nonneg -> Xr,le_trans -> Zq,mul_add -> Zx,fdiv_eq_ediv_of_nonneg -> Yl,emod_lt_of_pos -> Yn,mul_one -> Yw,emod_nonneg -> Wc,ediv_one -> Wt,add_mul -> Wz
open Option renaming map_some -> Xm,isSome_iff_exists -> Yv,isSome_map -> Wr
namespace PySem.W.Fast
def tw12561835817868140663:=0
def tw12798105471660897967:=0
def tw9966301341376793599:=0
def tw17025772450544382838:=0
def tw6208735921684346922:=0
def tw12722048370053400220:=0
def tw14455239800632336150:=0
def tw8240891249069414637:=0
def tw4915342462573247858:=0
def tw15927689375248510151:=0
def tw6026383718768681568:=0
def tw1270211102241526694:=0
def tw6316513406547156044:=0
def tw3264845451325749422:=0
def tw13012161661028813983:=0
def tw10184941941744497470:=0
def tw1953547667761037479:=0
def tw8720541616144719067:=0
def tw4360154985624725193:=0
def tw10287230728404766130:=0
def tw9212342026296432488:=0
def tw334395266958382735:=0
def tw7373517914191320347:=0
def tw16279586536746744455:=0
def tw676602639434702382:=0
def tw15493035143211688281:=0
def tw4728970028980370757:=0
def tw8074330060994739789:=0
def tw1363287314943327182:=0
def tw8502866368415036383:=0
def tw1153332225790495615:=0
def tw7736729936136950484:=0
def tw1355862455692588727:=0
def tw5869702090708198275:=0
def tw14107681320697723028:=0
def tw257014487122217045:=0
def tw8385979203018315579:=0
def tw16025430057384834353:=0
def tw18233587776709077482:=0
def tw4217825904439375019:=0
def tw8833932953017065159:=0
def tw2702440873921313336:=0
def tw1783463446521015304:=0
def tw9199419131664989293:=0
def tw11899405026285616503:=0
def tw10435610651680382005:=0
def tw7815726159417782492:=0
def tw9655103410534425626:=0
def tw7922798174413877447:=0
def tw8466531006410364151:=0
def tw9005626519578694000:=0
def tw16816564327424549960:=0
def tw1409698173481887719:=0
def tw5930920413148608789:=0
def tw855860226019440187:=0
def tw14234905356011682056:=0
def tw8762678327166753159:=0
def tw17435853433392550205:=0
def tw15043857185896034990:=0
def tw10880205856311995538:=0
def tw7894428757689918344:=0
def tw144074644550238003:=0
def tw423492260436896138:=0
def tw17407488144451878620:=0
def tw7537537261054064558:=0
def tw9003540823254613970:=0
def tw341099062495061331:=0
def tw13398689783675911610:=0
def tw3992338482803473729:=0
def tw18441049193208918955:=0
def tw3266986938873659032:=0
def tw12114808656577039848:=0
def tw5375988045550612055:=0
def tw9274920588518045460:=0
def tw16389151336845397912:=0
def tw16903760433758141809:=0
def tw12882670375742917954:=0
def tw12307455350483879915:=0
def tw424436332726659636:=0
def tw4535817239808092060:=0
def tw2007317832676666365:=0
def tw10418442318645239393:=0
def tw4598536382912271:=0
def tw5311898435435160500:=0
def tw7474601900547537155:=0
def tw15714629012247008153:=0
def tw419783642019068059:=0
def tw18289937739748075952:=0
def tw6684706561917253825:=0
def tw16211188130464629496:=0
def tw2404328649304719256:=0
def tw11137282809794570129:=0
def tw16502879653406369984:=0
def tw17934255115100089374:=0
def tw7563867985821176181:=0
def tw13336179807768133178:=0
def tw10904817607612669967:=0
def tw12225455225060121636:=0
def tw2910337203434843709:=0
def tw4278926529951316682:=0
def tw6323350652849564590:=0
def tw4174453980614634344:=0
def tw4097865276671693593:=0
def tw8595081932384422598:=0
def tw846432222432749698:=0
def tw3620889048645615133:=0
def tw10378075486800229193:=0
def tw14785293306184164298:=0
def tw1372101466683163597:=0
def tw2080486751071186429:=0
def tw13872439249604691828:=0
def tw10732642361688243630:=0
def tw100830325646737283:=0
def tw7821195192505164395:=0
def tw16524802983571845411:=0
def tw3124385451952355003:=0
def tw16231658170637517086:=0
def tw12927235249661806815:=0
def tw804887398277943231:=0
def tw6817624758101525189:=0
def tw7680371076489261702:=0
def tw2286636650144869139:=0
def tw10411771135569211514:=0
def tw18436197720999268375:=0
def tw653909566658369387:=0
def tw11525928870829829375:=0
def tw6207150198137619086:=0
def tw17823525787507422065:=0
def tw12770055400278800003:=0
def tw3366783340089814969:=0
def tw7264098520031362710:=0
def tw15476700776791422726:=0
def tw8805402723017064564:=0
def tw4341752289051041076:=0
def tw6094368597944802436:=0
def tw1871434133208065387:=0
def tw7618669535230907947:=0
def tw14058489031719064627:=0
def tw15448638151159521331:=0
def tw15300852655106759790:=0
def tw5580014236360948522:=0
def tw13258005939359589369:=0
def tw17888610875050616637:=0
def tw11781301625893733702:=0
def tw15230606172134610146:=0
def tw5766885144052048523:=0
def tw10997015754858504110:=0
end PySem.W.Fast
set_option Elab.async false
set_option linter.all false
set_option maxRecDepth 100000
namespace L2
open PySem PySem.Spec PyProof.Rows
abbrev Key:=Sum Int Str
def sQ:Key->Value->Bool
 | .inl k,v=>Value.isInt k v
 | .inr x,v=>Value.isStrOf x v
def aFJ (w:World):Key->Int
 | .inl k=>hashInt k
 | .inr x=>hashStr w x
theorem cO:∀ {k:Key} {v:Value},sQ k v=true->(∃ i t,k=Sum.inl i/\v=Value.int i t)∨(∃ x t,k=Sum.inr x/\v=Value.str x t)
 | .inl i,v,h=>by
  obtain ⟨t,e⟩:=Value.isInt_shape (k:=i) (v:=v) h
  exact .inl ⟨i,t,rfl,e⟩
 | .inr x,v,h=>by
  obtain ⟨t,e⟩:=Value.isStrOf_shape (x:=x) (v:=v) h
  exact .inr ⟨x,t,rfl,e⟩
theorem aAM (i:Int) (t:Tok):sQ (.inl i) (.int i t)=true:=by simp [sQ,Value.isInt]
theorem aAN (x:Str) (t:Tok):sQ (.inr x) (.str x t)=true:=by simp [sQ,Value.isStrOf]
theorem aEg (a b:Int):decide ((Sum.inl a:Key)=Sum.inl b)=(a==b):=by
 by_cases e:a=b
 ·subst e; simp
 ·have h:¬ (Sum.inl a:Key)=Sum.inl b:=fun q=>e (Sum.inl.inj q)
  rw [decide_eq_false h]
  exact (beq_eq_false_iff_ne.mpr e).symm
theorem aEh (a b:Str):decide ((Sum.inr a:Key)=Sum.inr b)=decide (a=b):=by
 by_cases e:a=b
 ·subst e; simp
 ·have h:¬ (Sum.inr a:Key)=Sum.inr b:=fun q=>e (Sum.inr.inj q)
  rw [decide_eq_false h,decide_eq_false e]
theorem aEi (a:Int) (b:Str):decide ((Sum.inl a:Key)=Sum.inr b)=false:=decide_eq_false (fun q=>nomatch q)
theorem aEj (a:Str) (b:Int):decide ((Sum.inr a:Key)=Sum.inl b)=false:=decide_eq_false (fun q=>nomatch q)
def bP (prog:Program) (w:World):PySem.KeyKind prog w Key where
 is:=sQ
 hash:=aFJ w
 inj:=fun v a b ha hb=>by
  rcases cO ha with ⟨i,t,rfl,rfl⟩ | ⟨x,t,rfl,rfl⟩
  ·rcases cO hb with ⟨j,u,rfl,e⟩ | ⟨y,u,rfl,e⟩
   ·injection e with e1 _; rw [e1]
   ·exact nomatch e
  ·rcases cO hb with ⟨j,u,rfl,e⟩ | ⟨y,u,rfl,e⟩
   ·exact nomatch e
   ·injection e with e1 _; rw [e1]
 byValue:=fun k v h=>by
  rcases cO h with ⟨i,t,rfl,rfl⟩ | ⟨x,t,rfl,rfl⟩ <;> rfl
 pyHash:=fun hv h=>by
  rcases cO hv with ⟨i,t,rfl,rfl⟩ | ⟨x,t,rfl,rfl⟩
  ·exact wpAny_pyHash_int h
  ·exact wpAny_pyHash_str h
 eqBool:=fun hu hv h=>by
  rcases cO hu with ⟨i,t,rfl,rfl⟩ | ⟨x,t,rfl,rfl⟩
  ·rcases cO hv with ⟨j,u,rfl,rfl⟩ | ⟨y,u,rfl,rfl⟩
   ·rw [aEg] at h; exact wpAny_eqBool_int h
   ·rw [aEi] at h; exact SeqAt.EqAt.int_str i t y u _ _ _ _ h
  ·rcases cO hv with ⟨j,u,rfl,rfl⟩ | ⟨y,u,rfl,rfl⟩
   ·rw [aEj] at h; exact SeqAt.EqAt.str_int x t j u _ _ _ _ h
   ·rw [aEh] at h; exact wpAny_eqBool_str h
 «strs»:=fun k x t v h=>by
  rcases cO h with ⟨i,u,rfl,e⟩ | ⟨y,u,rfl,e⟩
  ·exact nomatch e
  ·injection e with e1 _
   subst e1
   cases v <;> rfl
theorem vL (prog:Program) (w:World) (i:Int) (t:Tok):(bP prog w).is (.inl i) (.int i t)=true:=aAM i t
theorem vM (prog:Program) (w:World) (x:Str) (t:Tok):(bP prog w).is (.inr x) (.str x t)=true:=aAN x t
inductive V where
 | non | bl (b:Bool) | int (i:Int) | str (x:Str) | byt (b:Array UInt8) | flt (b:UInt64) | ref (a:Addr) | ty (n:String)
 deriving DecidableEq
def bM:V->Value->Prop
 | .non,u=>u=Value.none
 | .bl b,u=>u=Value.bool b
 | .int i,u=>∃ t,u=Value.int i t
 | .str x,u=>∃ t,u=Value.str x t
 | .byt b,u=>∃ t,u=Value.bytes b t
 | .flt b,u=>∃ t,u=Value.float b t
 | .ref a,u=>u=Value.ref a
 | .ty n,u=>u=Value.type n
abbrev bG:List V->List Value->Prop:=Paired bM
theorem bG.length {xs:List V} {us:List Value} (r:bG xs us):xs.length=us.length:=Paired.length r
theorem bG.get:∀ {xs:List V} {us:List Value} {i:Nat} {x:V},bG xs us->xs[i]?=some x->∃ u,us[i]?=some u/\bM x u
 | _,_,_,_,.nil,e=>by simp at e
 | _,_,0,_,.cons r _,e=>by simp at e; subst e; exact ⟨_,rfl,r⟩
 | _,_,i+1,x,.cons _ t,e=>by
  obtain ⟨u,h1,h2⟩:=bG.get (i:=i) (x:=x) t (by simpa using e)
  exact ⟨u,by simpa using h1,h2⟩
theorem bG.set {x:V} {u:Value} (r:bM x u):∀ {xs:List V} {us:List Value} (i:Nat),bG xs us->bG (xs.set i x) (us.set i u)
 | _,_,_,.nil=>.nil
 | _,_,0,.cons _ t=>.cons r t
 | _,_,i+1,.cons q t=>.cons q (bG.set r i t)
theorem bG.append:∀ {xs ys:List V} {us ws:List Value},bG xs us->bG ys ws->bG (xs++ys) (us++ws)
 := by
 intro xs ys us ws h s
 induction h with
 | nil=>exact s
 | cons r t ih=>exact .cons r ih
theorem bG.take:∀ {xs:List V} {us:List Value} (n:Nat),bG xs us->bG (xs.take n) (us.take n)
 | _,_,0,_=>.nil
 | _,_,_+1,.nil=>.nil
 | _,_,n+1,.cons r t=>.cons r (bG.take n t)
theorem bG.drop:∀ {xs:List V} {us:List Value} (n:Nat),bG xs us->bG (xs.drop n) (us.drop n)
 | _,_,0,r=>r
 | _,_,_+1,.nil=>.nil
 | _,_,n+1,.cons _ t=>bG.drop n t
def oU:Option V->Option Value->Prop
 | some v,some u=>bM v u
 | none,none=>True
 | _,_=>False
def KV {κ:Type}:List (κ×V)->List (κ×Value)->Prop:=Paired fun (p:κ×V) (q:κ×Value)=>p.1=q.1/\bM p.2 q.2
def kV:Key->V
 | .inl i=>.int i
 | .inr x=>.str x
inductive HO where
 /-- a list -/
 | lst (xs:List V)
 /-- a tuple (never changes) -/
 | tup (xs:List V)
 /-- a dict whose keys are ints and texts; one whose keys are tuples of ints and texts (the empty one is both) -/
 | dK (kvs:List (Key×V)) | dT (kvs:List (List Key×V))
 /-- a set of ints: its members,its size -/
 | set (S:Int->Bool) (n:Nat)
 /-- an instance of the class at C,its dict at dx,its attributes -/
 | ins (C dx:Addr) (fs:List (Str×V))
 /-- the dict of the instance at x -/
 | own (x:Addr)
 /-- the dict of an exception -/
 | xd (fs:List (Str×V))
 /-- a bound method,f of x -/
 | met (f x:Addr)
 /-- a range object lo,lo+1,.. below hi -/
 | rng (lo hi:Int)
 /-- a thing that is known to the object (the script; a dict while a loop walks it): read,never written while it is so -/
 | frz (o:Obj) (u:HO)
 /-- a code object's table -/
 | tbl (ps:Array Value)
 /-- a code object's table,all of whose codes have the name q; they are tracked as its own -/
 | tab (q:Str)
 /-- any other thing,by what is true of its one object (a def of one's own: aFZ a S n:=HO.ext fun h=>..) -/
 | ext (φ:Heap->Prop)
abbrev Hp:=Addr->Option HO
def upd (H:Hp) (a:Addr) (o:HO):Hp:=fun b=>if b=a then some o else H b
theorem aC {H:Hp} {a:Addr} {o:HO}:upd H a o a=some o:=by unfold upd; rw [if_pos rfl]
theorem aI {H:Hp} {a b:Addr} {o:HO} (h:b≠a):upd H a o b=H b:=by unfold upd; rw [if_neg h]
theorem zR {H:Hp} {a:Addr} {o u:HO}:upd (upd H a o) a u=upd H a u:=by
 funext b; unfold upd; split <;> rfl
theorem aEW {H:Hp} {a b:Addr} {o u:HO} (h:H a=some o) (h':H b=some u) (d:o≠u):a≠b:=by
 intro e; subst e; rw [h] at h'; exact d (Option.some.inj h')
theorem gK {H:Hp} {a b:Addr} {o:HO} (h:H a=some o) (h':H b=none):a≠b:=by
 intro e; subst e; rw [h] at h'; cases h'
section
variable (P:Program) (w:World)
def bW (H:Hp) (h:Heap) (a:Addr):HO->Prop
 | .lst xs=>xs.length<=sizeLine/\∃ (its:List Value) (n:Nat),bG xs its/\h.get? a=some { cls:=.type "list",data:=.seq its.toArray n }
 | .tup xs=>xs.length<=sizeLine/\∃ (its:List Value) (n:Nat),bG xs its/\h.get? a=some { cls:=.type "tuple",data:=.seq its.toArray n }
 | .dK kvs=>kvs.length<=sizeLine/\(a==sysModules)=false/\∃ vs,KV kvs vs/\h.DictOf (bP P w) a vs
 | .dT kvs => kvs.length <= sizeLine /\ (a == sysModules) = false /\ ∃ xs : List (List Key × Addr × Value),
     Paired (fun (p:List Key×V) (q:List Key×Addr×Value)=>p.1=q.1/\H q.2.1=some (.tup (p.1.map kV))/\bM p.2 q.2.2) kvs xs /\
     ∃ o es ep,h.get? a=some o/\o.ExactDict/\o.data=.dict es ep/\es.toList=xs.map (entryOfKey (tupleKind (bP P w)))/\(xs.map (·.1)).Nodup
 | .set S n=>h.SetOf (intKind P w) a S n
 | .ins C dx fs => H dx = some (.own a) /\ fs.length <= 1000 /\ dx ≠ a /\ h.get? a = some (PySem.W.instObj C dx) /\
     ∃ mA,h.Ns1 dx mA/\(∀ f,oU (fs.lookup f) (mA f))/\PySem.Within mA (fs.map (·.1))
 | .own _=>∃ o,h.get? a=some o
 | .xd fs=>∃ mA,h.Ns1 a mA/\∀ f,oU (fs.lookup f) (mA f)
 | .rng lo hi=>∃ t u v,h.get? a=some { cls:=.type "range",data:=.fields #[.int lo t,.int hi u,.int 1 v] }
 | .frz o u=>h.get? a=some o/\bW H h a u
 | .tbl ps=>h.get? a=some { cls:=.none,data:=.fields ps }
 | .tab q=>∃ ps:Array Value,h.get? a=some { cls:=.none,data:=.fields ps }/\TriplesOk ps.toList/\∀ (pos:Pos) (cv:Value),codeAmong pos ps.toList=some cv->∃ (c:Addr) (o:Obj) (vs:Array Value) (t:Tok),cv=.ref c/\H c=some (.own a)/\h.get? c=some o/\o.data=.fields vs/\vs[1]?=some (.str q t)
 | .met f x=>h.get? a=some (PySem.W.methodObj (.ref f) (.ref x))
 | .ext φ=>φ h/\(∃ o,h.get? a=some o)/\∀ h1 h2:Heap,φ h1->(∀ o,h1.get? a=some o->h2.get? a=some o)->φ h2
def HOk (H:Hp) (h:Heap):Prop:=∀ a o,H a=some o->bW P w H h a o
end
section
variable {P:Program} {w:World} {H H':Hp} {h h':Heap} {a:Addr} {o:HO}
theorem bW.lt (x:bW P w H h a o):a < h.objs.size:=by
 cases o with
 | lst xs=>obtain ⟨_,_,_,_,e⟩:=x; exact Ql e
 | tup xs=>obtain ⟨_,_,_,_,e⟩:=x; exact Ql e
 | dK kvs=>obtain ⟨_,_,_,_,o,_,_,e,_⟩:=x; exact Ql e
 | dT kvs=>obtain ⟨_,_,_,_,o,_,_,e,_⟩:=x; exact Ql e
 | set S n=>obtain ⟨o,_,_,_,e,_⟩:=x; exact Ql e
 | ins C dx fs=>obtain ⟨_,_,_,e,_⟩:=x; exact Ql e
 | own y=>obtain ⟨_,e⟩:=x; exact Ql e
 | xd fs=>obtain ⟨_,⟨_,_,_,e,_⟩,_⟩:=x; exact Ql e
 | rng lo hi=>obtain ⟨_,_,_,e⟩:=x; exact Ql e
 | frz ob u=>obtain ⟨e,_⟩:=x; exact Ql e
 | tbl ps=>exact Ql (show h.get? a=some _ from x)
 | tab q=>obtain ⟨_,e,_⟩:=x; exact Ql e
 | met f y=>exact Ql (show h.get? a=some _ from x)
 | ext φ=>obtain ⟨_,⟨_,e⟩,_⟩:=x; exact Ql e
theorem Paired.mapP {α β:Type} {F G:α->β->Prop}:∀ {l₁:List α} {l₂:List β},Paired F l₁ l₂->(∀ a b,F a b->G a b)->Paired G l₁ l₂
 := by
 intro l₁ l₂ h f
 induction h with
 | nil=>exact .nil
 | cons r t ih=>exact .cons (f _ _ r) ih
theorem bW.stay (x:bW P w H h a o) (k:∀ b u,(b=a∨H b=some (.own a))->h.get? b=some u->h'.get? b=some u)
  (ho:∀ b,H b=some (.own a)->H' b=some (.own a)) (ht:∀ b xs,H b=some (.tup xs)->H' b=some (.tup xs)):bW P w H' h' a o:=by
 induction o with
 | lst xs=>obtain ⟨z,its,n,r,e⟩:=x; exact ⟨z,its,n,r,k _ _ (.inl rfl) e⟩
 | tup xs=>obtain ⟨z,its,n,r,e⟩:=x; exact ⟨z,its,n,r,k _ _ (.inl rfl) e⟩
 | dK kvs=>obtain ⟨z,y,vs,r,ob,es,ep,e,c⟩:=x; exact ⟨z,y,vs,r,ob,es,ep,k _ _ (.inl rfl) e,c⟩
 | dT kvs =>
  obtain ⟨z,y,xs,r,ob,es,ep,e,c⟩:=x
  exact ⟨z,y,xs,Paired.mapP r fun p q z=>⟨z.1,ht _ _ z.2.1,z.2.2⟩,ob,es,ep,k _ _ (.inl rfl) e,c⟩
 | set S n=>obtain ⟨ob,es,ep,t,e,c⟩:=x; exact ⟨ob,es,ep,t,k _ _ (.inl rfl) e,c⟩
 | ins C dx fs =>
  obtain ⟨d,z,ne,e,mA,⟨od,es,ep,e2,c⟩,r⟩:=x
  exact ⟨ho _ d,z,ne,k _ _ (.inl rfl) e,mA,⟨od,es,ep,k _ _ (.inr d) e2,c⟩,r⟩
 | own y=>obtain ⟨ob,e⟩:=x; exact ⟨ob,k _ _ (.inl rfl) e⟩
 | xd fs=>obtain ⟨mA,⟨od,es,ep,e,c⟩,r⟩:=x; exact ⟨mA,⟨od,es,ep,k _ _ (.inl rfl) e,c⟩,r⟩
 | rng lo hi=>obtain ⟨t,u,v,e⟩:=x; exact ⟨t,u,v,k _ _ (.inl rfl) e⟩
 | frz ob u ih=>obtain ⟨e,q⟩:=x; exact ⟨k _ _ (.inl rfl) e,ih q⟩
 | tbl ps =>
  have e:h.get? a=some { cls:=.none,data:=.fields ps }:=x
  show h'.get? a=some { cls:=.none,data:=.fields ps }
  exact k a _ (.inl rfl) e
 | tab q =>
  obtain ⟨ps,e,z,r⟩:=x
  refine ⟨ps,k _ _ (.inl rfl) e,z,fun pos cv q=>?_⟩
  obtain ⟨c,o,vs,t,r1,r2,r3,r4⟩:=r pos cv q
  exact ⟨c,o,vs,t,r1,ho _ r2,k _ _ (.inr r2) r3,r4⟩
 | met f y =>
  have e:h.get? a=some (PySem.W.methodObj (.ref f) (.ref y)):=x
  show h'.get? a=some (PySem.W.methodObj (.ref f) (.ref y))
  exact k a _ (.inl rfl) e
 | ext φ=>obtain ⟨p,⟨o,e⟩,st⟩:=x; exact ⟨st _ _ p fun o q=>k _ _ (.inl rfl) q,⟨o,k _ _ (.inl rfl) e⟩,st⟩
theorem HOk.lt (x:HOk P w H h) (e:H a=some o):a < h.objs.size:=(x a o e).lt
theorem HOk.fresh (x:HOk P w H h) (e:h.objs.size<=a):H a=none:=by
 cases q:H a with
 | none=>rfl
 | some u=>exact absurd (Qp (x.lt q) e) (Jb _)
theorem HOk.kept (x:HOk P w H h) (k:∀ b u,h.get? b=some u->h'.get? b=some u):HOk P w H h':=fun a o e =>
 (x a o e).stay (fun b u _ q=>k b u q) (fun _ q=>q) fun _ _ q=>q
theorem HOk.laid (x:HOk P w H h) (k:∀ b u,h.get? b=some u->h'.get? b=some u) (hp:h.objs.size<=a) (new:bW P w (upd H a o) h' a o):HOk P w (upd H a o) h':=fun b u e=>by
 have hn:=x.fresh hp
 by_cases hb:b=a
 ·subst hb; rw [aC] at e; cases e; exact new
 ·rw [aI hb] at e
  exact (x b u e).stay (fun c v _ q=>k c v q) (fun c q=>by rw [aI (gK q hn)]; exact q) fun c xs q=>by rw [aI (gK q hn)]; exact q
end
def Rd (H:Hp) (a:Addr) (u:HO):Prop:=H a=some u∨∃ o,H a=some (.frz o u)
theorem Rd.ok {P:Program} {w:World} {H:Hp} {h:Heap} {a:Addr} {u:HO} (r:Rd H a u) (x:HOk P w H h):bW P w H h a u:=by
 rcases r with r | ⟨o,r⟩
 ·exact x a u r
 ·obtain ⟨_,q⟩:=x a _ r
  exact q
def Mut:Option HO->Prop
 | some (.lst _)=>True
 | some (.dK _)=>True
 | some (.dT _)=>True
 | some (.set _ _)=>True
 | some (.ins _ _ _)=>True
 | some (.ext _)=>True
 | some (.tab _)=>True
 | _=>False
section
variable {P:Program} {w:World} {H:Hp} {h h':Heap} {x e:Addr} {o':HO}
theorem HOk.write (ok:HOk P w H h) (mu:Mut (H x)) (he:e=x∨H e=some (.own x)) (k:∀ b u,b≠e->h.get? b=some u->h'.get? b=some u) (heo:∃ u,h'.get? e=some u)
  (new:bW P w (upd H x o') h' x o'):HOk P w (upd H x o') h':=fun b u q=>by
 have nown:∀ c y,H c=some (.own y)->c≠x:=fun c y r z=>by subst z; rw [r] at mu; exact mu
 have ntup:∀ c xs,H c=some (.tup xs)->c≠x:=fun c xs r z=>by subst z; rw [r] at mu; exact mu
 by_cases hb:b=x
 ·subst hb; rw [aC] at q; cases q; exact new
 ·rw [aI hb] at q
  by_cases hbe:b=e
  ·have q':H b=some (.own x):=by
    rcases he with z | z
    ·exact absurd (hbe.trans z) hb
    ·rw [hbe]; exact z
   rw [q] at q'; cases q'
   obtain ⟨v,hv⟩:=heo
   exact ⟨v,by rw [hbe]; exact hv⟩
  ·refine (ok b u q).stay (fun c v hc r=>k c v ?_ r) (fun c r=>by rw [aI (nown c b r)]; exact r) fun c xs r=>by rw [aI (ntup c xs r)]; exact r
   rcases hc with rfl | hc
   ·exact hbe
   ·rintro rfl
    rcases he with z | z
    ·exact nown c b hc z
    ·rw [hc] at z; cases z; exact hb rfl
end
structure Un (fs ex:List Addr) (H H':Hp) (h h':Heap):Prop where
 keep:∀ b o,h.get? b=some o->H b=none->b∉fs->b∉ex->h'.get? b=some o
 slot:∀ b o,h.get? b=some o->H b=none->b∈fs->b∉ex->∃ sl,h'.get? b=some { o with slots:=sl }
 free:∀ b o,h.get? b=some o->H b=none->b∉ex->H' b=none
 there:∀ b o,h.get? b=some o->b∉ex->∃ o',h'.get? b=some o'
 tups:∀ b xs,H b=some (.tup xs)->H' b=some (.tup xs)
 frzs:∀ b o u,H b=some (.frz o u)->H' b=some (.frz o u)
 tbls:∀ b ps,H b=some (.tbl ps)->∃ more,H' b=some (.tbl (ps++more))
section
variable {fs fs' ex ex':List Addr} {H H1 H2:Hp} {h h1 h2 h':Heap} {a x e:Addr} {o:HO}
theorem Un.any (u:Un fs ex H H1 h h1) {b:Addr} {ob:Obj} (q:h.get? b=some ob) (n:H b=none) (hx:b∉ex):∃ sl,h1.get? b=some { ob with slots:=sl }:=by
 by_cases hb:b∈fs
 ·exact u.slot b ob q n hb hx
 ·exact ⟨ob.slots,u.keep b ob q n hb hx⟩
theorem Un.kept (k:∀ b u,h.get? b=some u->h'.get? b=some u):Un fs ex H H h h' :=
 ⟨fun b ob q _ _ _=>k b ob q,fun b ob q _ _ _=>⟨ob.slots,k b ob q⟩,fun _ _ _ n _=>n,fun b ob q _=>⟨ob,k b ob q⟩,fun _ _ q=>q,fun _ _ _ q=>q,fun _ ps q=>⟨#[],by rw [q]; simp⟩⟩
theorem Un.refl:Un fs ex H H h h:=Un.kept fun _ _ q=>q
theorem Un.laid (k:∀ b u,h.get? b=some u->h'.get? b=some u) (hp:h.objs.size<=a) (hn:H a=none):Un fs ex H (upd H a o) h h' where
 keep:=fun b u q _ _ _=>k b u q
 slot:=fun b u q _ _ _=>⟨u.slots,k b u q⟩
 free:=fun b u q n _=>by rw [aI (Je (Qp (Ql q) hp))]; exact n
 there:=fun b u q _=>⟨u,k b u q⟩
 tups:=fun b xs q=>by rw [aI (gK q hn)]; exact q
 frzs:=fun b u xs q=>by rw [aI (gK q hn)]; exact q
 tbls:=fun b ps q=>⟨#[],by rw [aI (gK q hn),q]; simp⟩
theorem Un.write (mu:Mut (H x)) (he:e=x∨H e=some (.own x)) (k:∀ b u,b≠e->h.get? b=some u->h'.get? b=some u) (heo:∃ u,h'.get? e=some u):Un fs ex H (upd H x o) h h':=by
 have hx:∀ b,H b=none->b≠x:=fun b n z=>by subst z; rw [n] at mu; exact mu
 have hb:∀ b,H b=none->b≠e:=fun b n z=>by
  subst z
  rcases he with r | r
  ·exact hx b n r
  ·rw [n] at r; cases r
 have hm:∀ b u,H b=some u->¬ Mut (some u)->b≠x:=fun b u q nm z=>by subst z; rw [q] at mu; exact nm mu
 refine ⟨fun b u q n _ _=>k b u (hb b n) q,fun b u q n _ _=>⟨u.slots,k b u (hb b n) q⟩,fun b u q n _=>by rw [aI (hx b n)]; exact n,fun b u q _=>?_,
  fun b xs q=>by rw [aI (hm b _ q fun z=>z)]; exact q,fun b u xs q=>by rw [aI (hm b _ q fun z=>z)]; exact q,fun b ps q=>⟨#[],by rw [aI (hm b _ q fun z=>z),q]; simp⟩⟩
 by_cases hbe:b=e
 ·subst hbe; exact heo
 ·exact ⟨u,k b u hbe q⟩
theorem Un.mono (u:Un fs ex H H1 h h1) (hs:∀ b∈fs,b∈fs') (hx:∀ b∈ex,b∈ex'):Un fs' ex' H H1 h h1 :=
 ⟨fun b ob q n hb he=>u.keep b ob q n (fun z=>hb (hs b z)) fun z=>he (hx b z),fun _ _ q n _ he=>u.any q n fun z=>he (hx _ z),fun b ob q n he=>u.free b ob q n fun z=>he (hx b z),fun b ob q he=>u.there b ob q fun z=>he (hx b z),u.tups,u.frzs,u.tbls⟩
end
def trk (h:Heap) (H:Hp):List Addr:=(List.range h.objs.size).filter fun a=>(H a).isSome
def rZ (h:Heap) (H:Hp):Heap:=PySem.W.hideAll h (trk h H)
theorem aAO (h:Heap) (H:Hp):(rZ h H).objs.size=h.objs.size:=PySem.W.hideAll_size _ _
theorem aBF {h:Heap} {H:Hp} {b:Addr} {o:Obj} (e:h.get? b=some o) (n:H b=none):(rZ h H).get? b=some o :=
 PySem.W.hideAll_get _ e fun hm=>by
  have q:(H b).isSome=true:=(Za.mp hm).2
  rw [n] at q; simp at q
theorem aDa {h:Heap} {H:Hp} {b:Addr} {o:Obj} (e:(rZ h H).get? b=some o):h.get? b=some o/\H b=none:=by
 have e':h.get? b=some o:=PySem.W.of_hideAll (trk h H) e
 refine ⟨e',?_⟩
 cases q:H b with
 | none=>rfl
 | some x =>
  have hm:b∈trk h H:=Za.mpr ⟨Jr.mpr (Ql e'),by simp [q]⟩
  have z:(rZ h H).get? b=none:=PySem.W.hideAll_none (trk h H) hm
  rw [z] at e; cases e
def aDb (g h:Heap) (L:Addr):List (Addr×Obj):=(List.range h.objs.size).filterMap fun a=>if a=L∨(g.get? a).isSome=true then none else (h.get? a).map fun o=>(a,o)
def lP (g h:Heap) (L d:Addr):List (Addr×Obj):=(aDb g h L).filter fun p=>decide (p.1≠d)
structure Mod (K:PySem.W.Frag) (mg:Str->Option Value) (base:Heap):Prop where
 kin:K.In base
 glob:base.Ns mainGlobals mg
 blt:∃ mb,base.Ns builtinsNs mb/\∀ x:Str,x ≠ "__name__" -> mb x=bootBuiltins x
 nolimit:base.NoLimit
 mods:∃ mm,base.Ns sysModules mm
structure Cx where
 prog:Program
 w:World
 K:PySem.W.Frag
 mg:Str->Option Value
 base:Heap
 A:Around
 N:List Str
 s₀:Shared
 H₀:Hp
 env:Env
 outer:List Env
 stack:List Env
 ex:List Addr
 fn:Str->Bool
 calm:Bool
 pn:List (Addr×Obj)
 xe:Value->Shared->Prop
def frs (l:List Env):List Addr:=l.filterMap (·.frame)
abbrev Cx.fs (X:Cx):List Addr:=frs X.outer
def Vis (sc:Scope) (x:Str):Prop:=sc.names.lookup x=some .local∨sc.names.lookup x=some .cell∨sc.names.lookup x=some .free
def Loc (sc:Scope) (x:Str):Prop:=sc.names.lookup x=some .local∨sc.names.lookup x=some .cell
def aEX (env:Env) (h:Heap) (m:Str->Option Value) (x:Str) (u:Value):Prop :=
 (env.kindOf x=some .local/\m x=some u)∨((env.kindOf x=some .cell∨env.kindOf x=some .free)/\∃ c,env.cells.lookup x=some c/\h.IsCell c (some u))
structure Cx.Ok (X:Cx):Prop where
 mod:Mod X.K X.mg X.base
 kind:X.env.scope.kind=.function
 glob:X.env.globals=mainGlobals
 blt:X.env.builtins=builtinsNs
 above:X.s₀.heap.objs.size<=X.env.locals
 inj:∀ x y c,X.env.cells.lookup x=some c->X.env.cells.lookup y=some c->x=y
 has:∀ x,(X.env.kindOf x=some .cell∨X.env.kindOf x=some .free)->∃ c,X.env.cells.lookup x=some c
 cab:∀ x c,X.fn x=true->X.env.cells.lookup x=some c->X.s₀.heap.objs.size<=c
 hd:X.calm=true->X.A.handled=none
 frames:X.A.frames=some X.stack
 stk:X.stack=X.outer∨(X.stack=X.env::X.outer/\X.env.frame=some X.env.locals)
 exf:∀ b∈X.ex,b≠X.env.locals/\∀ x c,X.env.cells.lookup x=some c->c≠b
 bs:∀ b o,X.base.get? b=some o->X.s₀.heap.get? b=some o/\X.H₀ b=none
 bsz:X.base.objs.size<=X.s₀.heap.objs.size
 noex:∀ b o,X.base.get? b=some o->b∉X.ex
 exfs:∀ b∈X.ex,b∉X.fs
 funs:X.s₀.heap.FunFrames X.base X.outer
 frf:∀ b∈X.fs,X.H₀ b=none
structure Inv (X:Cx) (pins:List (Addr×Obj)) (σ:List (Option V)) (H:Hp) (s:Shared):Prop where
 ok:X.Ok
 os:s.os=X.s₀.os
 bare:AllBare s.gens
 base:Un X.fs X.ex X.H₀ H X.s₀.heap s.heap
 loc:∃ m,s.heap.Ns X.env.locals m/\∀ (i:Nat) (x:Str) (v:V),X.N[i]?=some x->σ[i]?=some (some v)->Vis X.env.scope x->∃ u,bM v u/\aEX X.env s.heap m x u
 cell:∀ x c,X.env.cells.lookup x=some c->∃ v,s.heap.IsCell c v
 free:H X.env.locals=none
 freeC:∀ x c,X.env.cells.lookup x=some c->H c=none
 pin:∀ p∈X.pn++pins,s.heap.get? p.1=some p.2/\H p.1=none/\p.1≠X.env.locals/\p.1∉X.fs/\∀ v,p.2.data≠.cell v
 hok:HOk X.prog X.w H s.heap
 len:σ.length=X.N.length
section
variable {X:Cx} {pins:List (Addr×Obj)} {σ:List (Option V)} {H H':Hp} {s:Shared} {h':Heap}
theorem Cx.Ok.nofr (ok:X.Ok) {b:Addr} {o:Obj} (e:X.base.get? b=some o):b∉X.fs:=fun hb=>by
 have:=(ok.funs.mem hb).1
 rw [e] at this; cases this
theorem Inv.bs (I:Inv X pins σ H s):∀ b o,X.base.get? b=some o->s.heap.get? b=some o/\H b=none:=fun b o e =>
 ⟨I.base.keep b o (I.ok.bs b o e).1 (I.ok.bs b o e).2 (I.ok.nofr e) (I.ok.noex b o e),I.base.free b o (I.ok.bs b o e).1 (I.ok.bs b o e).2 (I.ok.noex b o e)⟩
theorem Inv.bk (I:Inv X pins σ H s):∀ b o,X.base.get? b=some o->s.heap.get? b=some o:=fun b o e=>(I.bs b o e).1
theorem Inv.mod (I:Inv X pins σ H s):Mod X.K X.mg X.base:=I.ok.mod
theorem Inv.kIn (I:Inv X pins σ H s):X.K.In s.heap:=I.ok.mod.kin.keeps I.bk
theorem Inv.nolimit (I:Inv X pins σ H s):s.heap.NoLimit:=I.ok.mod.nolimit.keeps I.bk
theorem Inv.fr (I:Inv X pins σ H s):∃ m,Fr X.base X.env.locals s.heap m :=
 let ⟨m,hn,_⟩:=I.loc
 ⟨m,hn,I.bk,Qz I.ok.bsz I.ok.above⟩
theorem Inv.lt (I:Inv X pins σ H s):X.env.locals < s.heap.objs.size:=let ⟨_,hn,_⟩:=I.loc; hn.lt
theorem Inv.sz (I:Inv X pins σ H s):X.s₀.heap.objs.size<=s.heap.objs.size:=Qz I.ok.above (Zn I.lt)
theorem Inv.nofs (I:Inv X pins σ H s) {a:Addr} (h:s.heap.objs.size<=a):a∉X.fs:=fun hb=>by
 obtain ⟨_,o,ho,_⟩:=I.ok.funs.mem hb
 exact absurd (Qp (Ql ho) (Qz I.sz h)) (Jb _)
theorem Inv.cne (I:Inv X pins σ H s):∀ x c,X.env.cells.lookup x=some c->c≠X.env.locals:=fun x c e z=>by
 obtain ⟨v,o,ho,hd⟩:=I.cell x c e
 obtain ⟨m,⟨o',es,ep,ho',hd',_⟩,_⟩:=I.loc
 rw [z,ho'] at ho; cases ho; rw [hd'] at hd; cases hd
theorem Inv.funs (I:Inv X pins σ H s):s.heap.FunFrames X.base X.outer:=by
 have all:∀ (l:List Env),(∀ b∈frs l,b∈X.fs)->X.s₀.heap.FunFrames X.base l->s.heap.FunFrames X.base l:=by
  intro l
  induction l with
  | nil=>intro _ _; trivial
  | cons env r ih =>
   intro hs hl
   obtain ⟨hk,⟨L,o,hf,hn,ho,hd⟩,hr⟩:=hl
   have hL:L∈X.fs:=hs L (by unfold frs; rw [Xv,hf]; exact Qq)
   obtain ⟨sl,e⟩:=I.base.slot L o ho (I.ok.frf L hL) hL fun z=>I.ok.exfs L z hL
   exact ⟨hk,⟨L,_,hf,hn,e,hd⟩,ih (fun b hb=>hs b (by unfold frs; rw [Xv,hf]; exact Qr _ hb)) hr⟩
 exact all X.outer (fun _ hb=>hb) I.ok.funs
theorem Inv.stack (I:Inv X pins σ H s):s.heap.FunFrames X.base X.stack:=by
 rcases I.ok.stk with e | ⟨e,hf⟩
 ·rw [e]; exact I.funs
 ·rw [e]
  obtain ⟨m,hn,_⟩:=I.loc
  refine .cons (by rw [I.ok.kind]; decide) hf hn ?_ I.funs
  exact Heap.get?_none_of_le (Qz I.ok.bsz I.ok.above)
theorem Inv.stkSub (I:Inv X pins σ H s):∀ b∈frs X.stack,b∈X.env.locals::X.fs:=fun b hb=>by
 rcases I.ok.stk with e | ⟨e,hf⟩
 ·rw [e] at hb; exact Qr _ hb
 ·rw [e] at hb
  unfold frs at hb
  rw [Xv,hf] at hb
  exact hb
theorem Inv.stkFree (I:Inv X pins σ H s):∀ b∈frs X.stack,H b=none:=fun b hb=>by
 rcases Qm.mp (I.stkSub b hb) with e | hb
 ·rw [e]; exact I.free
 ·obtain ⟨_,o,ho,_⟩:=I.ok.funs.mem hb
  exact I.base.free b o ho (I.ok.frf b hb) fun z=>I.ok.exfs b z hb
theorem Inv.step {g':Array GenState} {t':Nat} {d':Drawn} {ch:List Addr} (I:Inv X pins σ H s)
  (hch:∀ b∈ch,(b∈X.ex∨X.s₀.heap.objs.size<=b)/\b≠X.env.locals/\(∀ x c,X.env.cells.lookup x=some c->c≠b)/\∀ p∈X.pn++pins,p.1≠b)
  (keep:∀ b o,b≠X.env.locals->b∉X.fs->b∉ch->s.heap.get? b=some o->H b=none->h'.get? b=some o)
  (slot:∀ b o,b≠X.env.locals->b∈X.fs->b∉ch->s.heap.get? b=some o->H b=none->∃ sl,h'.get? b=some { o with slots:=sl }) (free:∀ b o,b∉ch->s.heap.get? b=some o->H b=none->H' b=none)
  (there:∀ b o,b∉ch->s.heap.get? b=some o->∃ o',h'.get? b=some o')
  (tups:∀ b xs,H b=some (.tup xs)->H' b=some (.tup xs)) (frzs:∀ b o u,H b=some (.frz o u)->H' b=some (.frz o u)) (tbls:∀ b ps,H b=some (.tbl ps)->∃ more,H' b=some (.tbl (ps++more)))
  (ns:∀ m,s.heap.Ns X.env.locals m->h'.Ns X.env.locals m) (hok:HOk X.prog X.w H' h') (hg:AllBare g') :
  Inv X pins σ H' { s with heap:=h',gens:=g',drawn:=d',toks:=t' }:=by
 have neL:∀ b o,X.s₀.heap.get? b=some o->b≠X.env.locals:=fun b o e=>Je (Qp (Ql e) I.ok.above)
 have neC:∀ b o,X.s₀.heap.get? b=some o->b∉X.ex->b∉ch:=fun b o e hx hb=>by
  rcases (hch b hb).1 with z | z
  ·exact hx z
  ·exact absurd (Qp (Ql e) z) (Jb _)
 have cellK:∀ x c,X.env.cells.lookup x=some c->∀ v,s.heap.IsCell c v->h'.IsCell c v:=fun x c e v ⟨o,ho,hd⟩=>by
  have nch:c∉ch:=fun z=>(hch c z).2.2.1 x c e rfl
  by_cases hc:c∈X.fs
  ·obtain ⟨sl,q⟩:=slot c o (I.cne x c e) hc nch ho (I.freeC x c e)
   exact ⟨_,q,hd⟩
  ·exact ⟨o,keep c o (I.cne x c e) hc nch ho (I.freeC x c e),hd⟩
 refine ⟨I.ok,I.os,hg,⟨fun b o e n hb hx=>?_,fun b o e n hb hx=>?_,fun b o e n hx=>?_,fun b o e hx=>?_,fun b xs e=>tups b xs (I.base.tups b xs e),fun b o xs e=>frzs b o xs (I.base.frzs b o xs e),fun b ps e=>?_⟩,?_,fun x c e=>?_,?_,fun x c e=>?_,fun p hp=>?_,hok,I.len⟩
 ·exact keep b o (neL b o e) hb (neC b o e hx) (I.base.keep b o e n hb hx) (I.base.free b o e n hx)
 ·obtain ⟨sl,e1⟩:=I.base.slot b o e n hb hx
  obtain ⟨sl',e2⟩:=slot b _ (neL b o e) hb (neC b o e hx) e1 (I.base.free b o e n hx)
  exact ⟨sl',e2⟩
 ·obtain ⟨o',e1⟩:=I.base.there b o e hx
  exact free b o' (neC b o e hx) e1 (I.base.free b o e n hx)
 ·obtain ⟨o',e1⟩:=I.base.there b o e hx
  exact there b o' (neC b o e hx) e1
 ·obtain ⟨m1,e1⟩:=I.base.tbls b ps e
  obtain ⟨m2,e2⟩:=tbls b _ e1
  exact ⟨m1++m2,by rw [e2,Array.append_assoc]⟩
 ·obtain ⟨m,hn,hl⟩:=I.loc
  refine ⟨m,ns m hn,fun i x v e1 e2 e3=>?_⟩
  obtain ⟨u,r,l⟩:=hl i x v e1 e2 e3
  refine ⟨u,r,?_⟩
  rcases l with l | ⟨k,c,e,z⟩
  ·exact .inl l
  ·exact .inr ⟨k,c,e,cellK x c e _ z⟩
 ·obtain ⟨v,z⟩:=I.cell x c e
  exact ⟨v,cellK x c e v z⟩
 ·obtain ⟨m,⟨o,_,_,ho,_⟩,_⟩:=I.loc
  exact free _ o (fun z=>(hch _ z).2.1 rfl) ho I.free
 ·obtain ⟨v,o,ho,hd⟩:=I.cell x c e
  exact free c o (fun z=>(hch c z).2.2.1 x c e rfl) ho (I.freeC x c e)
 ·obtain ⟨e,n,ne,nf,d⟩:=I.pin p hp
  have nch:p.1∉ch:=fun z=>(hch p.1 z).2.2.2 p hp rfl
  exact ⟨keep p.1 p.2 ne nf nch e n,free p.1 p.2 nch e n,ne,nf,d⟩
theorem Inv.un {t':Nat} (I:Inv X pins σ H s) (u:Un X.fs [] H H' s.heap h') (hok:HOk X.prog X.w H' h'):Inv X pins σ H' { s with heap:=h',toks:=t' }:=by
 obtain ⟨m,⟨o,es,ep,ho,r⟩,_⟩:=id I.loc
 obtain ⟨sl,hL⟩:=u.any ho I.free (by simp)
 exact I.step (g':=s.gens) (d':=s.drawn) (ch:=[]) (fun _ z=>nomatch z) (fun b o _ hb _ e n=>u.keep b o e n hb (by simp)) (fun b o _ hb _ e n=>u.slot b o e n hb (by simp)) (fun b o _ e n=>u.free b o e n (by simp)) (fun b o _ e=>u.there b o e (by simp)) u.tups u.frzs u.tbls (fun m' hm=>by
  obtain ⟨o',es',ep',ho',r'⟩:=hm
  rw [ho] at ho'; cases ho'
  exact ⟨_,es',ep',hL,r'⟩) hok I.bare
theorem Inv.call {g':Array GenState} {t':Nat} {d':Drawn} {ch:List Addr} (I:Inv X pins σ H s) (u:Un (frs X.stack) ch H H' s.heap h') (hok:HOk X.prog X.w H' h') (hg:AllBare g')
  (hch:∀ b∈ch,(b∈X.ex∨X.s₀.heap.objs.size<=b)/\b≠X.env.locals/\(∀ x c,X.env.cells.lookup x=some c->c≠b)/\∀ p∈X.pn++pins,p.1≠b) :
  Inv X pins σ H' { s with heap:=h',gens:=g',drawn:=d',toks:=t' }:=by
 obtain ⟨m,⟨o,es,ep,ho,r⟩,_⟩:=id I.loc
 obtain ⟨sl,hL⟩:=u.any ho I.free fun z=>(hch _ z).2.1 rfl
 exact I.step (ch:=ch) hch (fun b o hL hb hc e n=>u.keep b o e n (fun z=>(Qm.mp (I.stkSub b z)).elim hL hb) hc) (fun b o _ _ hc e n=>u.any e n hc) (fun b o hc e n=>u.free b o e n hc) (fun b o hc e=>u.there b o e hc) u.tups u.frzs u.tbls (fun m' hm=>by
  obtain ⟨o',es',ep',ho',r'⟩:=hm
  rw [ho] at ho'; cases ho'
  exact ⟨_,es',ep',hL,r'⟩) hok hg
theorem Inv.turned {t':Nat} {it:Addr} (I:Inv X pins σ H s) (k:∀ b o,b≠it->s.heap.get? b=some o->h'.get? b=some o) (hn:H it=none) (hL:it≠X.env.locals)
  (h1:it∈X.ex∨X.s₀.heap.objs.size<=it) (h2:∀ x c,X.env.cells.lookup x=some c->c≠it) (h3:∀ p∈X.pn++pins,p.1≠it):Inv X pins σ H { s with heap:=h',toks:=t' }:=by
 have nit:∀ b u,H b=some u->b≠it:=fun b u e z=>by rw [z,hn] at e; cases e
 refine I.step (g':=s.gens) (d':=s.drawn) (ch:=[it]) (fun b hb=>?_) (fun b o _ _ hc e _=>k b o (fun z=>hc (by simp [z])) e) (fun b o _ _ hc e _=>⟨o.slots,k b o (fun z=>hc (by simp [z])) e⟩) (fun _ _ _ _ n=>n)
  (fun b o hc e=>⟨o,k b o (fun z=>hc (by simp [z])) e⟩) (fun _ _ e=>e) (fun _ _ _ e=>e) (fun b ps e=>⟨#[],by rw [e]; simp⟩) (fun m hm=>?_) (fun b u e=>?_) I.bare
 ·have e:b=it:=by simpa using hb
  subst e
  exact ⟨h1,hL,h2,h3⟩
 ·obtain ⟨o,es,ep,ho,r⟩:=hm
  exact ⟨o,es,ep,k _ o (Ne.symm hL) ho,r⟩
 ·refine (I.hok b u e).stay (fun c v hc q=>k c v ?_ q) (fun _ q=>q) fun _ _ q=>q
  rcases hc with z | z
  ·rw [z]; exact nit b u e
  ·exact nit c _ z
theorem Inv.tok (I:Inv X pins σ H s) (t:Nat):Inv X pins σ H { s with toks:=t }:=I.un (h':=s.heap) (t':=t) Un.refl I.hok
theorem Inv.kept {t':Nat} (I:Inv X pins σ H s) (k:∀ b u,s.heap.get? b=some u->h'.get? b=some u):Inv X pins σ H { s with heap:=h',toks:=t' }:=I.un (Un.kept k) (I.hok.kept k)
theorem Inv.laid {a:Addr} {o:HO} {t':Nat} (I:Inv X pins σ H s) (k:∀ b u,s.heap.get? b=some u->h'.get? b=some u) (hp:s.heap.objs.size<=a) (new:bW X.prog X.w (upd H a o) h' a o) :
  Inv X pins σ (upd H a o) { s with heap:=h',toks:=t' }:=I.un (Un.laid k hp (I.hok.fresh hp)) (I.hok.laid k hp new)
theorem Inv.write {x e:Addr} {o:HO} {t':Nat} (I:Inv X pins σ H s) (mu:Mut (H x)) (he:e=x∨H e=some (.own x)) (k:∀ b u,b≠e->s.heap.get? b=some u->h'.get? b=some u) (heo:∃ u,h'.get? e=some u)
  (new:bW X.prog X.w (upd H x o) h' x o):Inv X pins σ (upd H x o) { s with heap:=h',toks:=t' }:=I.un (Un.write mu he k heo) (I.hok.write mu he k heo new)
theorem Inv.pins_of {pins':List (Addr×Obj)} (I:Inv X pins σ H s) (h:∀ p∈pins',s.heap.get? p.1=some p.2/\H p.1=none/\p.1≠X.env.locals/\p.1∉X.fs/\∀ v,p.2.data≠.cell v):Inv X pins' σ H s :=
 ⟨I.ok,I.os,I.bare,I.base,I.loc,I.cell,I.free,I.freeC,fun p hp=>(Jk.mp hp).elim (fun z=>I.pin p (Jl _ z)) (h p),I.hok,I.len⟩
theorem vN {N:List Str} (hN:N.Nodup) {i j:Nat} {x:Str} (a:N[i]?=some x) (b:N[j]?=some x):i=j:=by
 obtain ⟨h1,e1⟩:=Qd.mp a
 obtain ⟨h2,e2⟩:=Qd.mp b
 exact (List.getElem_inj hN).mp (e1.trans e2.symm)
theorem sR {M:Model} {A:Around} {E:Value->Shared->Prop} {i:Nat} {x:Str} {v:V} {u:Value} {Q:Unit->Shared->Prop} (I:Inv X pins σ H s) (hN:X.N.Nodup) (hi:X.N[i]?=some x) (hx:Loc X.env.scope x) (r:bM v u)
  (h:∀ s',Inv X pins (σ.set i (some v)) H s'->(∃ a,Heap.SameBut a s.heap s'.heap/\(a=X.env.locals∨X.env.cells.lookup x=some a))->Q () s') (hf:X.fn x=true∨X.env.scope.names.lookup x=some .local:=by first | exact .inl rfl | exact .inr rfl | assumption):wpAny M A (storeName X.env x u) Q E s:=by
 obtain ⟨m,hn,hl⟩:=id I.loc
 have hcls:(X.env.scope.kind==.class || (X.env.scope.kind==.module && X.env.locals !=X.env.globals))=false:=by rw [I.ok.kind]; rfl
 have hiσ:i < σ.length:=by rw [I.len]; exact (Qd.mp hi).1
 have cne:=I.cne
 have tracked:∀ {a:Addr} {h':Heap},(∃ o,s.heap.get? a=some o/\H a=none)->Heap.SameBut a s.heap h'->HOk X.prog X.w H h':=fun {a h'} ha hs b ob e=>by
  obtain ⟨_,_,hfree⟩:=ha
  refine (I.hok b ob e).stay (fun c w' hc q=>(hs.2 c ?_).trans q) (fun _ q=>q) fun _ _ q=>q
  rintro rfl
  rcases hc with rfl | hc
  ·rw [hfree] at e; cases e
  ·rw [hfree] at hc; cases hc
 rcases hx with hk | hk
 ·refine wpAny_storeName_local hk hn (fun h' hn' hs=>?_) hcls
  obtain ⟨oL,_,_,hoL,_⟩:=id hn
  refine h _ ⟨I.ok,I.os,I.bare,⟨fun b o e n hb hx=>?_,fun b o e n hb hx=>?_,I.base.free,fun b o e hx=>?_,I.base.tups,I.base.frzs,I.base.tbls⟩,⟨_,hn',fun j y v' e1 e2 e3=>?_⟩,fun y c e=>?_,I.free,I.freeC,fun p hp=>?_,tracked ⟨oL,hoL,I.free⟩ hs,by simpa using I.len⟩ ⟨_,hs,.inl rfl⟩
  ·exact (hs.2 b (Je (Qp (Ql e) I.ok.above))).trans (I.base.keep b o e n hb hx)
  ·obtain ⟨sl,e1⟩:=I.base.slot b o e n hb hx
   exact ⟨sl,(hs.2 b (Je (Qp (Ql e) I.ok.above))).trans e1⟩
  ·obtain ⟨o',e1⟩:=I.base.there b o e hx
   exact ⟨o',(hs.2 b (Je (Qp (Ql e) I.ok.above))).trans e1⟩
  ·by_cases hj:j=i
   ·subst hj
    rw [hi] at e1; cases e1
    rw [Wa hiσ] at e2
    cases e2
    exact ⟨u,r,.inl ⟨hk,by simp⟩⟩
   ·rw [Yc (Ne.symm hj)] at e2
    obtain ⟨u',r',q⟩:=hl j y v' e1 e2 e3
    refine ⟨u',r',?_⟩
    rcases q with ⟨k,e⟩ | ⟨k,c,e,z⟩
    ·refine .inl ⟨k,?_⟩
     have:y≠x:=fun e=>hj (vN hN e1 (e ▸ hi))
     simp [this,e]
    ·exact .inr ⟨k,c,e,z.sameBut hs (cne y c e)⟩
  ·obtain ⟨w',z⟩:=I.cell y c e
   exact ⟨w',z.sameBut hs (cne y c e)⟩
  ·obtain ⟨e,n,ne,nf,d⟩:=I.pin p hp
   exact ⟨(hs.2 p.1 ne).trans e,n,ne,nf,d⟩
 ·have hfn:X.fn x=true:=by
   rcases hf with z | z
   ·exact z
   ·rw [z] at hk; cases hk
  obtain ⟨c,hc⟩:=I.ok.has x (.inl hk)
  obtain ⟨w',z⟩:=I.cell x c hc
  refine wpAny_storeName_cell I.ok.kind hk hc z (fun h' hc' hs=>?_)
  obtain ⟨oc,hoc,hocd⟩:=id z
  refine h { s with heap:=h' } ⟨I.ok,I.os,I.bare,⟨fun b o e n hb hx=>?_,fun b o e n hb hx=>?_,I.base.free,fun b o e hx=>?_,I.base.tups,I.base.frzs,I.base.tbls⟩,⟨m,hn.sameBut hs (Ne.symm (cne x c hc)),fun j y v' e1 e2 e3=>?_⟩,fun y c' e=>?_,I.free,I.freeC,fun p hp=>?_,tracked ⟨oc,hoc,I.freeC x c hc⟩ hs,by simpa using I.len⟩ ⟨c,hs,.inr hc⟩
  ·exact (hs.2 b (Je (Qp (Ql e) (I.ok.cab x c hfn hc)))).trans (I.base.keep b o e n hb hx)
  ·obtain ⟨sl,e1⟩:=I.base.slot b o e n hb hx
   exact ⟨sl,(hs.2 b (Je (Qp (Ql e) (I.ok.cab x c hfn hc)))).trans e1⟩
  ·obtain ⟨o',e1⟩:=I.base.there b o e hx
   exact ⟨o',(hs.2 b (Je (Qp (Ql e) (I.ok.cab x c hfn hc)))).trans e1⟩
  ·by_cases hj:j=i
   ·subst hj
    rw [hi] at e1; cases e1
    rw [Wa hiσ] at e2
    cases e2
    exact ⟨u,r,.inr ⟨.inl hk,c,hc,hc'⟩⟩
   ·rw [Yc (Ne.symm hj)] at e2
    obtain ⟨u',r',q⟩:=hl j y v' e1 e2 e3
    refine ⟨u',r',?_⟩
    rcases q with q | ⟨k,c',e,z'⟩
    ·exact .inl q
    ·refine .inr ⟨k,c',e,z'.sameBut hs ?_⟩
     rintro rfl
     exact hj (vN hN e1 (I.ok.inj _ _ _ e hc ▸ hi))
  ·by_cases hcc:c'=c
   ·subst hcc; exact ⟨_,hc'⟩
   ·obtain ⟨w2,z2⟩:=I.cell y c' e
    exact ⟨w2,z2.sameBut hs hcc⟩
  ·obtain ⟨e,n,ne,nf,d⟩:=I.pin p hp
   refine ⟨(hs.2 p.1 ?_).trans e,n,ne,nf,d⟩
   intro q
   rw [q,hoc] at e
   have q':oc=p.2:=Option.some.inj e
   exact d w' (by rw [<- q']; exact hocd)
theorem vO {M:Model} {A:Around} {E:Value->Shared->Prop} {i:Nat} {x:Str} {v:V} {u:Value} {Q:Unit->Shared->Prop} (I:Inv X pins σ H s) (hN:X.N.Nodup) (hi:X.N[i]?=some x) (hx:Loc X.env.scope x) (r:bM v u)
  (h:∀ s',Inv X pins (σ.set i (some v)) H s'->Q () s') (hf:X.fn x=true∨X.env.scope.names.lookup x=some .local:=by first | exact .inl rfl | exact .inr rfl | assumption):wpAny M A (storeName X.env x u) Q E s :=
 sR I hN hi hx r (fun s' I' _=>h s' I') hf
theorem Inv.call' {s':Shared} {ch:List Addr} (I:Inv X pins σ H s) (ho:s'.os=s.os) (u:Un (frs X.stack) ch H H' s.heap s'.heap) (hok:HOk X.prog X.w H' s'.heap) (hg:AllBare s'.gens)
  (hch:∀ b∈ch,(b∈X.ex∨X.s₀.heap.objs.size<=b)/\b≠X.env.locals/\(∀ x c,X.env.cells.lookup x=some c->c≠b)/\∀ p∈X.pn++pins,p.1≠b):Inv X pins σ H' s':=by
 obtain ⟨h',g',d',t',o'⟩:=s'
 have e:o'=s.os:=ho
 subst e
 exact I.call (g':=g') (t':=t') (d':=d') u hok hg hch
end
abbrev XK:=Value->Option Addr->Hp->Prop
abbrev St:=List (Option V)
abbrev VK:=V->Hp->Prop
abbrev TE:=St->Hp->VK->Prop
abbrev TT:=St->Hp->(Bool->Hp->Prop)->Prop
abbrev TA:=St->Hp->(List V->Hp->Prop)->Prop
structure Ends where
 nx:St->Hp->Prop
 rt:VK
 bk:St->Hp->Prop:=fun _ _=>False
 ct:St->Hp->Prop:=fun _ _=>False
abbrev TS:=Ends->St->Hp->Prop
def EP (X:Cx) (pins:List (Addr×Obj)) (σ:St) (Q:VK) (u:Value) (s':Shared):Prop:=∃ v H',Inv X pins σ H' s'/\bM v u/\Q v H'
def TP (X:Cx) (pins:List (Addr×Obj)) (σ:St) (Q:Bool->Hp->Prop) (b:Bool) (s':Shared):Prop:=∃ H',Inv X pins σ H' s'/\Q b H'
def AP (X:Cx) (pins:List (Addr×Obj)) (σ:St) (Q:List V->Hp->Prop) (us:List Value) (s':Shared):Prop:=∃ vs H',Inv X pins σ H' s'/\bG vs us/\Q vs H'
def SP (X:Cx) (pins:List (Addr×Obj)) (D:Ends) (f:Flow) (s':Shared):Prop :=
 match f with
 | .next=>∃ σ' H',Inv X pins σ' H' s'/\D.nx σ' H'
 | .brk=>∃ σ' H',Inv X pins σ' H' s'/\D.bk σ' H'
 | .cont=>∃ σ' H',Inv X pins σ' H' s'/\D.ct σ' H'
 | .ret u=>∃ v σ' H',Inv X pins σ' H' s'/\bM v u/\D.rt v H'
def PE (X:Cx) (e:Expr) (t:TE):Prop :=
 ∀ (pins:List (Addr×Obj)) (s:Shared) (σ:St) (H:Hp) (Q:VK),Inv X pins σ H s->t σ H Q->wpAny (model X.prog X.w) X.A (eval e X.env) (EP X pins σ Q) X.xe s
def PT (X:Cx) (e:Expr) (t:TT):Prop :=
 ∀ (pins:List (Addr×Obj)) (s:Shared) (σ:St) (H:Hp) (Q:Bool->Hp->Prop),Inv X pins σ H s->t σ H Q->wpAny (model X.prog X.w) X.A (isTrue e X.env (eval e X.env)) (TP X pins σ Q) X.xe s
def PW (X:Cx) (e:Expr) (t:TT):Prop :=
 ∀ (whole:Sem Value) (pins:List (Addr×Obj)) (s:Shared) (σ:St) (H:Hp) (Q:Bool->Hp->Prop),Inv X pins σ H s->t σ H Q->wpAny (model X.prog X.w) X.A (isTrue e X.env whole) (TP X pins σ Q) X.xe s
theorem PW.pt {X:Cx} {e:Expr} {t:TT} (h:PW X e t):PT X e t:=h _
def PA (X:Cx) (es:List Expr) (t:TA):Prop :=
 ∀ (pos:Pos) (pins:List (Addr×Obj)) (s:Shared) (σ:St) (H:Hp) (Q:List V->Hp->Prop),Inv X pins σ H s->t σ H Q->wpAny (model X.prog X.w) X.A (spliced (backTo pos (starEach es X.env))) (AP X pins σ Q) X.xe s
def PS (X:Cx) (st:Stmt) (t:TS):Prop :=
 ∀ (pins:List (Addr×Obj)) (s:Shared) (σ:St) (H:Hp) (D:Ends),Inv X pins σ H s->t D σ H->wpAny (model X.prog X.w) X.A (exec st X.env) (SP X pins D) X.xe s
def PSs (X:Cx) (st:List Stmt) (t:TS):Prop :=
 ∀ (pins:List (Addr×Obj)) (s:Shared) (σ:St) (H:Hp) (D:Ends),Inv X pins σ H s->t D σ H->wpAny (model X.prog X.w) X.A (execs st X.env) (SP X pins D) X.xe s
theorem thn {α:Type} {t:Sem α} {Q Q':α->Shared->Prop} {M:Model} {A:Around} {E:Value->Shared->Prop} {s:Shared} (h:wpAny M A t Q E s) (hQ:∀ a s,Q a s->Q' a s):wpAny M A t Q' E s:=wpAny_mono h hQ fun _ _ x=>x
section
variable {X:Cx}
def aEY (i:Nat):TE:=fun σ H Q=>∃ v,σ[i]?=some (some v)/\Q v H
abbrev tC (v:V):TE:=fun _ H Q=>Q v H
theorem aEk {i:Nat} {x:Str} {pos:Pos} (hN:X.N[i]?=some x) (hv:Vis X.env.scope x) (hd:(x==("__debug__" : Str))=false:=by decide) (hcd:(x==("__classdict__" : Str))=false:=by decide):PE X (.Name x pos) (aEY i):=by
 intro pins s σ H Q I h
 obtain ⟨v,e,h⟩:=h
 obtain ⟨m,hn,hl⟩:=I.loc
 obtain ⟨u,r,l⟩:=hl i x v hN e hv
 have fin:EP X pins σ Q u s:=⟨v,H,I,r,h⟩
 rcases l with ⟨hk,hm⟩ | ⟨hk,c,hc,hcell⟩
 ·exact wpAny_Name (wpAny_loadName_local I.ok.kind hk hn hm fin) hd
 ·rcases hk with hk | hk
  ·exact wpAny_Name (wpAny_loadName_cell I.ok.kind hk hc hcell fin) hd
  ·exact wpAny_Name (wpAny_loadName_free I.ok.kind hk hc hcell fin hcd) hd
theorem aJ {i j pos}:PE X (.Constant (.int i) j pos) (tC (.int i)):=fun _ _ _ H _ I h=>wpAny_Constant_int ⟨.int i,H,I.tok _,⟨_,rfl⟩,h⟩
theorem cE {b j pos}:PE X (.Constant (.bool b) j pos) (tC (.bl b)):=fun _ _ _ H _ I h=>Constant_bool ⟨.bl b,H,I,rfl,h⟩
theorem aBG {j pos}:PE X (.Constant .none j pos) (tC .non):=fun _ _ _ H _ I h=>Constant_none ⟨.non,H,I,rfl,h⟩
theorem xU {x j pos}:PE X (.Constant (.str x) j pos) (tC (.str x)):=fun _ _ _ H _ I h=>Calls.Constant_str ⟨.str x,H,I.tok _,⟨_,rfl⟩,h⟩
def Gl (X:Cx) (x:Str):Prop:=X.env.kindOf x=some .globalImplicit
theorem zS {E:Value->Shared->Prop} {pins:List (Addr×Obj)} {s:Shared} {σ:St} {H:Hp} {x:Str} {u:Value} {pos:Pos} {Q:Value->Shared->Prop} (I:Inv X pins σ H s) (hg:Gl X x) (hm:X.mg x=some u) (h:Q u s)
  (hd:(x==("__debug__" : Str))=false:=by decide):wpAny (model X.prog X.w) X.A (eval (.Name x pos) X.env) Q E s :=
 Calls.Name_function_global I.ok.kind hg (Calls.loadGlobal_global (by rw [I.ok.glob]; exact I.mod.glob.keeps I.bk) hm h) hd
theorem hJ {E:Value->Shared->Prop} {pins:List (Addr×Obj)} {s:Shared} {σ:St} {H:Hp} {x:Str} {u:Value} {pos:Pos} {Q:Value->Shared->Prop} (I:Inv X pins σ H s) (hg:Gl X x) (hm:X.mg x=none) (hv:bootBuiltins x=some u) (h:Q u s)
  (hn:x ≠ "__name__" := by decide) (hd:(x==("__debug__" : Str))=false:=by decide):wpAny (model X.prog X.w) X.A (eval (.Name x pos) X.env) Q E s:=by
 obtain ⟨mb,h1,h2⟩:=I.mod.blt
 exact Calls.Name_function_global I.ok.kind hg (Calls.loadGlobal_builtin (by rw [I.ok.glob]; exact I.mod.glob.keeps I.bk) hm (by rw [I.ok.blt]; exact h1.keeps I.bk) ((h2 x hn).trans hv) h) hd
theorem uB {x:Str} {v:V} {u:Value} {pos:Pos} (hg:Gl X x) (hm:X.mg x=some u) (r:bM v u) (hd:(x==("__debug__" : Str))=false:=by decide):PE X (.Name x pos) (tC v) :=
 fun _ _ _ H _ I h=>zS I hg hm ⟨v,H,I,r,h⟩ hd
theorem dO {x:Str} {v:V} {u:Value} {pos:Pos} (hg:Gl X x) (hm:X.mg x=none) (hv:bootBuiltins x=some u) (r:bM v u) (hn:x ≠ "__name__" := by decide) (hd:(x==("__debug__" : Str))=false:=by decide):PE X (.Name x pos) (tC v) :=
 fun _ _ _ H _ I h=>hJ I hg hm hv ⟨v,H,I,r,h⟩ hn hd
variable {a b:Expr} {ta tb:TE} {pos:Pos}
def PC (X:Cx) (op:CmpOp) (a b:Expr) (t:TE):Prop :=
 ∀ (pins:List (Addr×Obj)) (s:Shared) (σ:St) (H:Hp) (Q:VK),Inv X pins σ H s->t σ H Q ->
  wpAny (model X.prog X.w) X.A (eval a X.env) (fun v s₁=>wpAny (model X.prog X.w) X.A (eval b X.env) (fun u s₂=>wpAny (model X.prog X.w) X.A (compareOp op v u) (EP X pins σ Q) X.xe s₂) X.xe s₁) X.xe s
theorem aBH (b:Expr) {op:CmpOp} (h:op≠.In) (h2:op≠.NotIn):behindInMarks op b=false:=by
 have e1:(op==CmpOp.In)=false:=by cases op <;> first | rfl | exact absurd rfl h
 have e2:(op==CmpOp.NotIn)=false:=by cases op <;> first | rfl | exact absurd rfl h2
 cases b <;> simp [behindInMarks,e1,e2]
def aEZ (ta:TE):TE:=fun σ H Q=>ta σ H fun x H1=>Q (.bl (!decide (x=.non))) H1
theorem bM.none_iff {x:V} {v:Value} (r:bM x v):(v==Value.none)=decide (x=.non):=by
 cases x with
 | non=>cases r; rfl
 | bl _=>cases r; rfl
 | int _=>obtain ⟨t,rfl⟩:=r; rfl
 | str _=>obtain ⟨t,rfl⟩:=r; rfl
 | byt _=>obtain ⟨t,rfl⟩:=r; rfl
 | flt _=>obtain ⟨t,rfl⟩:=r; rfl
 | ref _=>cases r; rfl
 | ty _=>cases r; rfl
theorem aDc {j pos'} (ha:PE X a ta):PC X .IsNot a (.Constant .none j pos') (aEZ ta):=by
 intro pins s σ H Q I h
 refine thn (ha pins s σ H _ I h) fun v s1 hx9=>?_
 obtain ⟨x,H1,I1,r1,q1⟩:=hx9
 exact Constant_none (isnot_none_gen ⟨.bl _,H1,I1,by rw [r1.none_iff]; rfl,q1⟩)
def tB (t:TE):TT:=fun σ H Q=>t σ H fun x H1=>∃ c,x=.bl c/\Q c H1
theorem aBI {op:CmpOp} {t:TE} (h:PC X op a b t) (h1:behindInMarks op b=false:=by first | exact aBH _ (by decide) (by decide) | rfl):PT X (.Compare a [op] [b] pos) (tB t):=by
 intro pins s σ H Q I hw
 refine wpAny_isTrue_Compare1 (thn (h pins s σ H _ I hw) fun v s1 h1=>thn h1 fun u s2 h2=>thn h2 fun c s3 hx9=>?_) h1
 obtain ⟨x,H1,I1,r1,q1⟩:=hx9
 obtain ⟨d,rfl,q⟩:=q1
 cases r1
 exact wpAny_truthy_bool ⟨H1,I1,q⟩
theorem cJ {e:Expr} {t:TE} (h:PE X e t) (he:∀ whole,isTrue e X.env whole=(do let v<-whole; standAt e.pos; holding [v] (truthy v)):=by intro _; rfl):PT X e (tB t):=by
 intro pins s σ H Q I hw
 refine isTrue_plain (thn (h pins s σ H _ I hw) fun v s1 hx9=>?_) (he _)
 obtain ⟨x,H1,I1,r1,q1⟩:=hx9
 obtain ⟨d,rfl,q⟩:=q1
 cases r1
 exact wpAny_truthy_bool ⟨H1,I1,q⟩
variable {tA tB':TT} {lP:List Expr}
def aE0 (t u:TT):TT:=fun σ H Q=>t σ H fun c H1=>if c=true then u σ H1 Q else Q false H1
def tOr (t u:TT):TT:=fun σ H Q=>t σ H fun c H1=>if c=true then Q true H1 else u σ H1 Q
def aFK (t:TT):TT:=fun σ H Q=>t σ H fun c H1=>Q (!c) H1
theorem uC (ha:PT X a tA):PW X (.BoolOp .And [a] pos) tA:=by
 intro wh pins s σ H Q I h
 refine isTrue_and (thn (ha pins s σ H Q I h) fun c s1 e=>?_)
 cases c with
 | true=>exact isTrue_and_nil e
 | false=>exact e
theorem eT (ha:PT X a tA):PW X (.BoolOp .Or [a] pos) tA:=by
 intro wh pins s σ H Q I h
 refine isTrue_or (thn (ha pins s σ H Q I h) fun c s1 e=>?_)
 cases c with
 | false=>exact isTrue_or_nil e
 | true=>exact e
theorem xV (ha:PT X a tA) (hb:PW X (.BoolOp .And (b::lP) pos) tB'):PW X (.BoolOp .And (a::b::lP) pos) (aE0 tA tB'):=by
 intro wh pins s σ H Q I h
 refine isTrue_and (thn (ha pins s σ H _ I h) fun c s1 hx9=>?_)
 obtain ⟨H1,I1,q1⟩:=hx9
 cases c with
 | true=>exact hb wh pins s1 σ H1 Q I1 q1
 | false=>exact ⟨H1,I1,q1⟩
theorem gA (ha:PT X a tA) (hb:PW X (.BoolOp .Or (b::lP) pos) tB'):PW X (.BoolOp .Or (a::b::lP) pos) (tOr tA tB'):=by
 intro wh pins s σ H Q I h
 refine isTrue_or (thn (ha pins s σ H _ I h) fun c s1 hx9=>?_)
 obtain ⟨H1,I1,q1⟩:=hx9
 cases c with
 | true=>exact ⟨H1,I1,q1⟩
 | false=>exact hb wh pins s1 σ H1 Q I1 q1
theorem cF (ha:PT X a tA):PT X (.UnaryOp .Not a pos) (aFK tA):=by
 intro pins s σ H Q I h
 exact isTrue_not (ha pins s σ H (fun c H1=>Q (!c) H1) I h)
def aE1 (ta tb:TE):TE:=fun σ H Q=>ta σ H fun x H1=>∃ c,x=.bl c/\if c=true then tb σ H1 Q else Q (.bl false) H1
def aFL (ta tb:TE):TE:=fun σ H Q=>ta σ H fun x H1=>∃ c,x=.bl c/\if c=true then Q (.bl true) H1 else tb σ H1 Q
def aE2 (ta:TE):TE:=fun σ H Q=>ta σ H fun x H1=>∃ c,x=.bl c/\Q (.bl (!c)) H1
theorem jH {op} {t:TE} (h:PE X a t):PE X (.BoolOp op [a] pos) t:=fun pins s σ H Q I hw=>BoolOp_one (h pins s σ H Q I hw)
theorem jI (ha:PE X a ta) (hb:PE X (.BoolOp .And (b::lP) pos) tb):PE X (.BoolOp .And (a::b::lP) pos) (aE1 ta tb):=by
 intro pins s σ H Q I h
 refine BoolOp_and (thn (ha pins s σ H _ I h) fun v s1 hx9=>?_)
 obtain ⟨x,H1,I1,r1,q1⟩:=hx9
 obtain ⟨c,rfl,q1⟩:=q1
 cases r1
 refine wpAny_truthy_bool ?_
 cases c with
 | true=>exact hb pins s1 σ H1 Q I1 q1
 | false=>exact ⟨.bl false,H1,I1,rfl,q1⟩
theorem aE3 (ha:PE X a ta) (hb:PE X (.BoolOp .Or (b::lP) pos) tb):PE X (.BoolOp .Or (a::b::lP) pos) (aFL ta tb):=by
 intro pins s σ H Q I h
 refine BoolOp_or (thn (ha pins s σ H _ I h) fun v s1 hx9=>?_)
 obtain ⟨x,H1,I1,r1,q1⟩:=hx9
 obtain ⟨c,rfl,q1⟩:=q1
 cases r1
 refine wpAny_truthy_bool ?_
 cases c with
 | false=>exact hb pins s1 σ H1 Q I1 q1
 | true=>exact ⟨.bl true,H1,I1,rfl,q1⟩
theorem aBJ (ha:PE X a ta):PE X (.UnaryOp .Not a pos) (aE2 ta):=by
 intro pins s σ H Q I h
 refine UnaryOp_ (thn (ha pins s σ H _ I h) fun v s1 hx9=>?_)
 obtain ⟨x,H1,I1,r1,q1⟩:=hx9
 obtain ⟨c,rfl,q1⟩:=q1
 cases r1
 exact not_of (wpAny_truthy_bool ⟨.bl (!c),H1,I1,rfl,q1⟩)
end
def SqL (K:PySem.W.Frag) (H:Hp) (a:Addr) (xs:List V):Prop :=
 Rd H a (.lst xs) ∨
  ∃ (o:Obj) (its:Array Value) (n:Nat),K.lookup a=some o/\o.cls=.type "list" /\ o.dict=none/\o.data=.seq its n/\its.size<=sizeLine/\bG xs its.toList
def SqT (K:PySem.W.Frag) (H:Hp) (a:Addr) (xs:List V):Prop :=
 Rd H a (.tup xs) ∨
  ∃ (o:Obj) (its:Array Value) (n:Nat),K.lookup a=some o/\o.cls=.type "tuple" /\ o.dict=none/\o.data=.seq its n/\its.size<=sizeLine/\bG xs its.toList
def aFM:Value->Option V
 | .none=>some .non
 | .bool b=>some (.bl b)
 | .int i _=>some (.int i)
 | .str x _=>some (.str x)
 | .bytes b _=>some (.byt b)
 | .float b _=>some (.flt b)
 | .ref a=>some (.ref a)
 | .type n=>some (.ty n)
 | _=>none
theorem bM.abs {x:V} {u:Value} (r:bM x u):aFM u=some x:=by
 cases x with
 | non=>cases r; rfl
 | bl _=>cases r; rfl
 | int _=>obtain ⟨t,rfl⟩:=r; rfl
 | str _=>obtain ⟨t,rfl⟩:=r; rfl
 | byt _=>obtain ⟨t,rfl⟩:=r; rfl
 | flt _=>obtain ⟨t,rfl⟩:=r; rfl
 | ref _=>cases r; rfl
 | ty _=>cases r; rfl
theorem bM.inj {x y:V} {u:Value} (r:bM x u) (q:bM y u):x=y:=Option.some.inj (r.abs.symm.trans q.abs)
theorem bG.inj:∀ {xs ys:List V} {us:List Value},bG xs us->bG ys us->xs=ys
 := by
 intro xs ys us h
 induction h generalizing ys with
 | nil=>intro q; cases q; rfl
 | cons r t ih=>intro q; cases q with | cons r' t'=>rw [r.inj r',ih t']
section
variable {X:Cx} {pins:List (Addr×Obj)} {σ:St} {H:Hp} {s:Shared} {a:Addr} {xs ys:List V}
theorem SqL.of {K:PySem.W.Frag} (h:H a=some (.lst xs)):SqL K H a xs:=.inl (.inl h)
theorem SqT.of {K:PySem.W.Frag} (h:H a=some (.tup xs)):SqT K H a xs:=.inl (.inl h)
theorem Inv.list (I:Inv X pins σ H s) (h:SqL X.K H a xs):∃ its:List Value,bG xs its/\PlainL s.heap a its.toArray/\xs.length<=sizeLine:=by
 rcases h with h | ⟨o,its,n,hk,hc,hd,hs,hz,r⟩
 ·obtain ⟨z,its,n,r,e⟩:=h.ok I.hok
  exact ⟨its,r,⟨_,n,e,rfl,rfl,rfl⟩,z⟩
 ·refine ⟨its.toList,r,⟨o,n,I.kIn a o hk,hc,hd,by simpa using hs⟩,?_⟩
  have e:=r.length
  simp only [Array.length_toList] at e
  omega
theorem Inv.tuple (I:Inv X pins σ H s) (h:SqT X.K H a xs):∃ its:List Value,bG xs its/\IsTup s.heap a its.toArray/\xs.length<=sizeLine:=by
 rcases h with h | ⟨o,its,n,hk,hc,_,hs,hz,r⟩
 ·obtain ⟨z,its,n,r,p⟩:=h.ok I.hok
  exact ⟨its,r,⟨_,p,rfl,n,rfl⟩,z⟩
 ·refine ⟨its.toList,r,⟨o,I.kIn a o hk,hc,n,by simpa using hs⟩,?_⟩
  have e:=r.length
  simp only [Array.length_toList] at e
  omega
theorem Inv.list_inj (I:Inv X pins σ H s) (h:SqL X.K H a xs) (h':SqL X.K H a ys):xs=ys:=by
 obtain ⟨its,r,⟨o,n,e,_,_,d⟩,_⟩:=I.list h
 obtain ⟨its',r',⟨o',n',e',_,_,d'⟩,_⟩:=I.list h'
 rw [e] at e'; cases e'
 rw [d] at d'
 injection d' with d1 _
 have:its=its':=by simpa using congrArg Array.toList d1
 subst this
 exact r.inj r'
theorem Inv.tuple_inj (I:Inv X pins σ H s) (h:SqT X.K H a xs) (h':SqT X.K H a ys):xs=ys:=by
 obtain ⟨its,r,⟨o,e,_,n,d⟩,_⟩:=I.tuple h
 obtain ⟨its',r',⟨o',e',_,n',d'⟩,_⟩:=I.tuple h'
 rw [e] at e'; cases e'
 rw [d] at d'
 injection d' with d1 _
 have:its=its':=by simpa using congrArg Array.toList d1
 subst this
 exact r.inj r'
end
abbrev Cx.wish (X:Cx) (E:Value->Shared->Prop):Cx:={ X with xe:=E }
abbrev Cx.nox (X:Cx):Cx:=X.wish fun _ _=>False
theorem Cx.Ok.wish {X:Cx} (ok:X.Ok) (E:Value->Shared->Prop):(X.wish E).Ok :=
 ⟨ok.mod,ok.kind,ok.glob,ok.blt,ok.above,ok.inj,ok.has,ok.cab,ok.hd,ok.frames,ok.stk,ok.exf,ok.bs,ok.bsz,ok.noex,ok.exfs,ok.funs,ok.frf⟩
theorem Cx.Ok.unwish {X:Cx} {E:Value->Shared->Prop} (ok:(X.wish E).Ok):X.Ok :=
 ⟨ok.mod,ok.kind,ok.glob,ok.blt,ok.above,ok.inj,ok.has,ok.cab,ok.hd,ok.frames,ok.stk,ok.exf,ok.bs,ok.bsz,ok.noex,ok.exfs,ok.funs,ok.frf⟩
section
variable {X:Cx} {pins:List (Addr×Obj)} {σ:St} {H:Hp} {s:Shared} {E:Value->Shared->Prop}
theorem Inv.wish (I:Inv X pins σ H s) (E:Value->Shared->Prop):Inv (X.wish E) pins σ H s:=⟨I.ok.wish E,I.os,I.bare,I.base,I.loc,I.cell,I.free,I.freeC,I.pin,I.hok,I.len⟩
theorem Inv.unwish (I:Inv (X.wish E) pins σ H s):Inv X pins σ H s:=⟨I.ok.unwish,I.os,I.bare,I.base,I.loc,I.cell,I.free,I.freeC,I.pin,I.hok,I.len⟩
theorem SP.unwish {D:Ends} {f:Flow} {s':Shared} (h:SP (X.wish E) pins D f s'):SP X pins D f s':=by
 cases f with
 | next=>obtain ⟨σ',H',I,q⟩:=h; exact ⟨σ',H',I.unwish,q⟩
 | brk=>obtain ⟨σ',H',I,q⟩:=h; exact ⟨σ',H',I.unwish,q⟩
 | cont=>obtain ⟨σ',H',I,q⟩:=h; exact ⟨σ',H',I.unwish,q⟩
 | ret u=>obtain ⟨v,σ',H',I,r,q⟩:=h; exact ⟨v,σ',H',I.unwish,r,q⟩
theorem PSs.nox {st:List Stmt} {t:TS} (h:PSs X.nox st t):PSs X st t:=fun pins s σ H D I hw =>
 wpAny_mono (h pins s σ H D (I.wish _) hw) (fun _ _ q=>q.unwish) fun _ _ z=>False.elim z
end
section
variable {X:Cx} {st:Stmt} {lP:List Stmt} {t u:TS} {e:Expr} {te:TE} {pos:Pos}
def aD3:TS:=fun D σ H=>D.nx σ H
def aE4 (t u:TS):TS:=fun D σ H=>t { D with nx:=u D } σ H
theorem aW:PSs X [] aD3:=fun _ _ σ H _ I h=>wpAny_execs_nil ⟨σ,H,I,h⟩
theorem aD (h1:PS X st t) (h2:PSs X lP u):PSs X (st::lP) (aE4 t u):=by
 intro pins s σ H D I h
 refine wpAny_execs_cons (thn (h1 pins s σ H { D with nx:=u D } I h) fun f s1 q=>?_)
 cases f with
 | next =>
  obtain ⟨σ',H',I',q⟩:=q
  exact h2 pins s1 σ' H' D I' q
 | ret v=>exact q
 | brk=>exact q
 | cont=>exact q
theorem aG (h1:PS X st t):PSs X [st] t:=by
 intro pins s σ H D I h
 refine wpAny_execs_cons (thn (h1 pins s σ H D I h) fun f s1 q=>?_)
 cases f with
 | next=>exact wpAny_execs_nil q
 | ret v=>exact q
 | brk=>exact q
 | cont=>exact q
theorem Inv.quiet {pins:List (Addr×Obj)} {σ:St} {H:Hp} {s:Shared} (I:Inv X pins σ H s):interactive X.env=false:=by simp [interactive,I.ok.kind]
def aE5 (te:TE):TS:=fun D σ H=>te σ H fun _ H1=>D.nx σ H1
theorem cQ (he:PE X e te) (hs:swapsWith e none pos.line X.env=pure false:=by rfl):PS X (.Expr e pos) (aE5 te):=by
 intro pins s σ H D I h
 refine wpAny_Expr_any (thn (he pins s σ H _ I h) fun v s1 hx9=>?_) I.quiet hs
 obtain ⟨x,H1,I1,r1,q1⟩:=hx9
 exact ⟨σ,H1,I1,q1⟩
def aFN (te:TE):TS:=fun D σ H=>te σ H D.rt
theorem aO (he:PE X e te):PS X (.Return (some e) pos) (aFN te):=by
 intro pins s σ H D I h
 refine wpAny_Return_some (thn (he pins s σ H _ I h) fun v s1 hx9=>?_)
 obtain ⟨x,H1,I1,r1,q1⟩:=hx9
 exact ⟨x,σ,H1,I1,r1,q1⟩
def aE6 (c:TT) (t u:TS):TS:=fun D σ H=>c σ H fun b H1=>if b=true then t D σ H1 else u D σ H1
theorem bT {c:Expr} {a b:List Stmt} {tc:TT} (hc:PT X c tc) (ha:PSs X a t) (hb:PSs X b u):PS X (.If c a b pos) (aE6 tc t u):=by
 intro pins s σ H D I h
 refine wpAny_If (thn (hc pins s σ H _ I h) fun d s1 hx9=>?_)
 obtain ⟨H1,I1,q1⟩:=hx9
 cases d with
 | true=>exact ha pins s1 σ H1 D I1 q1
 | false=>exact hb pins s1 σ H1 D I1 q1
def aEl:TS:=fun _ _ _=>False
theorem kU {sts:List Stmt}:PSs X sts aEl:=fun _ _ _ _ _ _ h=>h.elim
end
abbrev TG:=V->St->Hp->(St->Hp->Prop)->Prop
abbrev TGs:=List V->St->Hp->(St->Hp->Prop)->Prop
def PG (X:Cx) (target:Expr) (t:TG):Prop :=
 ∀ (pins:List (Addr×Obj)) (s:Shared) (σ:St) (H:Hp) (v:V) (u:Value) (Q:St->Hp->Prop),Inv X pins σ H s->bM v u->t v σ H Q ->
  wpAny (model X.prog X.w) X.A (assign target X.env u) (fun _ s'=>∃ σ' H',Inv X pins σ' H' s'/\Q σ' H') X.xe s
def PGs (X:Cx) (ts:List Expr) (t:TGs):Prop :=
 ∀ (pins:List (Addr×Obj)) (s:Shared) (σ:St) (H:Hp) (vs:List V) (us:List Value) (Q:St->Hp->Prop),Inv X pins σ H s->bG vs us->t vs σ H Q ->
  wpAny (model X.prog X.w) X.A (assignInOrder ((assignEach ts X.env).map (·.2)) us) (fun _ s'=>∃ σ' H',Inv X pins σ' H' s'/\Q σ' H') X.xe s
abbrev aEm:=V->V->V->Hp->(Hp->Prop)->Prop
def aE7 (X:Cx) (t:aEm):Prop :=
 ∀ (pins:List (Addr×Obj)) (s:Shared) (σ:St) (H:Hp) (o i v:V) (ov iv u:Value) (Q:Hp->Prop),Inv X pins σ H s->bM o ov->bM i iv->bM v u->t o i v H Q ->
  wpAny (model X.prog X.w) X.A (setItem ov iv u) (fun _ s'=>∃ H',Inv X pins σ H' s'/\Q H') X.xe s
section
variable {X:Cx} {pos:Pos}
def sS (i:Nat):TG:=fun v σ H Q=>Q (σ.set i (some v)) H
theorem aH {i:Nat} {x:Str} (hN:X.N.Nodup) (hi:X.N[i]?=some x) (hx:Loc X.env.scope x) (hf:X.fn x=true∨X.env.scope.names.lookup x=some .local:=by first | exact .inl rfl | exact .inr rfl | assumption):PG X (.Name x pos) (sS i):=by
 intro pins s σ H v u Q I r h
 exact wpAny_assign_Name (vO I hN hi hx r (fun s' I'=>⟨_,H,I',h⟩) hf)
def aFO:TGs:=fun vs σ H Q=>vs = []/\Q σ H
def aE8 (t:TG) (u:TGs):TGs:=fun vs σ H Q=>∃ v r,vs=v::r/\t v σ H fun σ' H'=>u r σ' H' Q
theorem cH:PGs X [] aFO:=by
 intro pins s σ H vs us Q I r h
 obtain ⟨e,h⟩:=h
 subst e
 cases r
 exact assignInOrder_nil ⟨σ,H,I,h⟩
theorem aQ {e:Expr} {es:List Expr} {t:TG} {u:TGs} (h1:PG X e t) (h2:PGs X es u)
  (hs:(assignEach (e::es) X.env).map (·.2)=assign e X.env::(assignEach es X.env).map (·.2):=by rfl):PGs X (e::es) (aE8 t u):=by
 intro pins s σ H vs us Q I r h
 obtain ⟨v,vr,e1,h⟩:=h
 subst e1
 cases r with
 | cons r rr =>
  rw [hs]
  refine assignInOrder_cons (thn (h1 pins s σ H _ _ _ I r h) fun _ s1 hx9=>?_)
  obtain ⟨σ1,H1,I1,q1⟩:=hx9
  exact h2 pins s1 σ1 H1 _ _ Q I1 rr q1
def aE9 (K:PySem.W.Frag) (n:Nat) (t:TGs):TG:=fun v σ H Q=>∃ a xs,v=.ref a/\SqT K H a xs/\xs.length=n/\t xs σ H Q
theorem eU {es:List Expr} {k:Nat} {t:TGs} {n:Nat} (hc:X.calm=true) (h:PGs X es t)
  (hn:(assignEach es X.env).length=n:=by rfl) (hst:(assignEach es X.env).findIdx? (·.1)=none:=by rfl):PG X (.Tuple es k pos) (aE9 X.K n t):=by
 intro pins s σ H v u Q I r hw
 obtain ⟨a,xs,e1,hq,hl,hw⟩:=hw
 subst e1
 cases r
 obtain ⟨its,rv,ht,hz⟩:=I.tuple hq
 refine assign_Tuple_tuple (I.ok.hd hc) ht (by simp [hn,<- hl,rv.length]) hst fun h' hx=>?_
 have I1:Inv X pins σ H { s with heap:=h' }:=I.kept (t':=s.toks) fun b o e=>hx b o (Je (Ql e)) e
 exact h pins _ σ H xs _ Q I1 (by simpa using rv) hw
def aFP (to ti:TE) (t:aEm):TG:=fun v σ H Q=>to σ H fun o H1=>ti σ H1 fun i H2=>t o i v H2 fun H3=>Q σ H3
theorem uD {o i:Expr} {to ti:TE} {t:aEm} (ho:PE X o to) (hi:PE X i ti) (hs:aE7 X t)
  (ha:∀ v,assign (.Subscript o i pos) X.env v=(do
   let ov<-holding [v] (eval o X.env)
   let iv<-holding [v,ov] (eval i X.env)
   standAt pos
   holding [v,ov,iv] (setItem ov iv v)
   release [v,ov,iv] []):=by intro _; rfl):PG X (.Subscript o i pos) (aFP to ti t):=by
 intro pins s σ H v u Q I r h
 rw [ha]
 refine wpAny_bind (wpAny_holding (thn (ho pins s σ H _ I h) fun ov s1 hx9=>?_))
 obtain ⟨x,H1,I1,r1,q1⟩:=hx9
 refine wpAny_bind (wpAny_holding (thn (hi pins s1 σ H1 _ I1 q1) fun iv s2 hx9=>?_))
 obtain ⟨y,H2,I2,r2,q2⟩:=hx9
 refine wpAny_bind (wpAny_standAt (wpAny_bind (wpAny_holding (thn (hs pins s2 σ H2 x y v ov iv u _ I2 r1 r2 r q2) fun _ s3 hx9=>?_))))
 obtain ⟨H3,I3,q3⟩:=hx9
 exact wpAny_release ⟨σ,H3,I3,q3⟩
def aEn (te:TE) (g:TG):TS:=fun D σ H=>te σ H fun x H1=>g x σ H1 D.nx
theorem iG {tg e:Expr} {te:TE} {g:TG} (he:PE X e te) (hg:PG X tg g) (hs:swapsWithSole [tg] e pos.line X.env=pure false:=by rfl) (hw:swappedStores [tg] e X.env=pure none:=by rfl)
  (h1:(assignEach [tg] X.env).map (·.2) = [assign tg X.env]:=by rfl):PS X (.Assign [tg] e pos) (aEn te g):=by
 intro pins s σ H D I h
 refine wpAny_Assign_stores (thn (he pins s σ H _ I h) fun v s1 hx9=>?_) hs hw
 obtain ⟨x,H1,I1,r1,q1⟩:=hx9
 rw [h1]
 exact thn (hg pins s1 σ H1 x v _ I1 r1 q1) fun _ s2 q=>q
theorem aY {i:Nat} {x:Str} {e:Expr} {te:TE} {pos':Pos} (hN:X.N.Nodup) (hi:X.N[i]?=some x) (hx:Loc X.env.scope x) (he:PE X e te) (hs:swapsWith e (some (.Name x pos')) pos.line X.env=pure false:=by rfl) (hf:X.fn x=true∨X.env.scope.names.lookup x=some .local:=by first | exact .inl rfl | exact .inr rfl | assumption) :
  PS X (.Assign [.Name x pos'] e pos) (aEn te (sS i)):=by
 intro pins s σ H D I h
 refine wpAny_Assign_Name (thn (he pins s σ H _ I h) fun v s1 hx9=>?_) hs
 obtain ⟨y,H1,I1,r1,q1⟩:=hx9
 exact vO I1 hN hi hx r1 (fun s2 I2=>⟨_,H1,I2,q1⟩) hf
def aEo (c:TT) (tb:TS):TS:=fun D σ H=>∃ W:Nat->St->Hp->Prop,(∃ m,W m σ H)/\∀ m σ H,W m σ H ->
 c σ H fun b H1=>if b=true then ∃ N:St->Hp->Prop,(∀ σ' H',N σ' H'->∃ m',m' < m/\W m' σ' H')/\tb { D with nx:=N,ct:=N,bk:=D.nx } σ H1 else D.nx σ H1
theorem pJ {c:Expr} {body:List Stmt} {tc:TT} {tb:TS} (hp:PassesOwn (model X.prog X.w) X.A X.env X.xe) (hc:PT X c tc) (hb:PSs X body tb):PS X (.While c body [] pos) (aEo tc tb):=by
 intro pins s σ H D I h
 obtain ⟨W,⟨m0,w0⟩,turn⟩:=h
 refine wpAny_While (codeAny_whileLoop (fun n s'=>∃ σ' H',Inv X pins σ' H' s'/\W n σ' H') ?_ m0 ⟨σ,H,I,w0⟩)
 rintro n s1 ⟨σ1,H1,I1,w1⟩
 refine wpAny_passesOwn hp (thn (hc pins s1 σ1 H1 _ I1 (turn n σ1 H1 w1)) fun b s2 hx9=>?_)
 obtain ⟨H2,I2,q2⟩:=hx9
 cases b with
 | true =>
  obtain ⟨N,hN,q2⟩:=q2
  rw [if_pos rfl]
  refine wpAny_passesOwn hp (thn (hb pins s2 σ1 H2 _ I2 q2) fun f s3 q3=>?_)
  cases f with
  | next =>
   obtain ⟨σ3,H3,I3,n3⟩:=q3
   obtain ⟨m',hm,w3⟩:=hN σ3 H3 n3
   exact ⟨m',hm,σ3,H3,I3,w3⟩
  | cont =>
   obtain ⟨σ3,H3,I3,n3⟩:=q3
   obtain ⟨m',hm,w3⟩:=hN σ3 H3 n3
   exact ⟨m',hm,σ3,H3,I3,w3⟩
  | brk=>exact q3
  | ret v=>exact q3
 | false =>
  rw [if_neg Qv]
  exact wpAny_execs_nil ⟨σ1,H2,I2,q2⟩
end
structure It where
 go:Nat->Hp->Prop
 yld:Nat->Hp->V->Hp->Prop
 stop:Nat->Hp->Prop
def kC (X:Cx) (pins:List (Addr×Obj)) (H:Hp) (b:Addr):Prop :=
 H b=none/\b≠X.env.locals/\b∉X.fs/\(b∈X.ex∨X.s₀.heap.objs.size<=b)/\(∀ x c,X.env.cells.lookup x=some c->c≠b)/\∀ p∈X.pn++pins,p.1≠b
theorem Inv.fpOk {X:Cx} {pins:List (Addr×Obj)} {σ:St} {H H':Hp} {s:Shared} {b:Addr} (I:Inv X pins σ H s) (hb:s.heap.objs.size<=b) (hn:H' b=none):kC X pins H' b:=by
 refine ⟨hn,Xj (Qp I.lt hb),I.nofs hb,.inr (Qz I.sz hb),fun x c e z=>?_,fun p hp z=>?_⟩
 ·obtain ⟨v,q⟩:=I.cell x c e
  exact absurd (Qp q.lt (by rw [z]; exact hb)) (Jb _)
 ·exact absurd (Qp (Ql (I.pin p hp).1) (by rw [z]; exact hb)) (Jb _)
structure Turn (P:Program) (w:World) (K:PySem.W.Frag) (tg:Expr) (J:It) (fp:List Addr) (it:Addr) (tn:Nat->Heap->Prop):Prop where
 mem:it∈fp
 obj:∀ i h,tn i h->∀ b∈fp,∃ o,h.get? b=some o/\∀ v,o.data≠.cell v
 keep:∀ i h h',tn i h->(∀ b∈fp,∀ o,h.get? b=some o->h'.get? b=some o)->tn i h'
 item:∀ (X:Cx),X.prog=P->X.w=w->X.K=K->X.calm=true->∀ (i:Nat) (pins:List (Addr×Obj)) (s:Shared) (σ:St) (H:Hp) (E:Value->Shared->Prop),Inv X pins σ H s->(∀ b∈fp,kC X pins H b)->tn i s.heap->J.go i H ->
  wpAny (model P w) X.A (pyNext (.ref it)) (fun r s1=>∃ u,r=some u /\
   wpAny (model P w) X.A (letOwnedTupleGo tg (.ref it) u) (fun _ s2=>∃ x H',Inv X pins σ H' s2/\bM x u/\J.yld i H x H'/\tn (i+1) s2.heap/\∀ b∈fp,H' b=none) E s1) E s
 done:∀ (X:Cx),X.prog=P->X.w=w->X.K=K->X.calm=true->∀ (i:Nat) (pins:List (Addr×Obj)) (s:Shared) (σ:St) (H:Hp) (E:Value->Shared->Prop),Inv X pins σ H s->(∀ b∈fp,kC X pins H b)->tn i s.heap->J.stop i H ->
  wpAny (model P w) X.A (pyNext (.ref it)) (fun r s1=>r=none/\Inv X pins σ H s1) E s
 self:∀ (A:Around) (i:Nat) (s:Shared) (Q:Value->Shared->Prop) (E:Value->Shared->Prop),tn i s.heap->Q (.ref it) s->wpAny (model P w) A (pyIter (.ref it)) Q E s
abbrev TI:=St->Hp->(It->Hp->Prop)->Prop
def PIE (X:Cx) (pins:List (Addr×Obj)) (σ:St) (tg:Expr) (R:It->Hp->Prop) (itv:Value) (s2:Shared):Prop :=
 ∃ (it:Addr) (fp:List Addr) (tn:Nat->Heap->Prop) (J:It) (H':Hp),itv=.ref it/\Inv X pins σ H' s2/\Turn X.prog X.w X.K tg J fp it tn/\tn 0 s2.heap/\(∀ b∈fp,kC X pins H' b)/\R J H'
def PI (X:Cx) (tg iter:Expr) (wi:TI):Prop :=
 ∀ (pins:List (Addr×Obj)) (s:Shared) (σ:St) (H:Hp) (R:It->Hp->Prop),Inv X pins σ H s->wi σ H R ->
  wpAny (model X.prog X.w) X.A (eval iter X.env) (fun v s1=>wpAny (model X.prog X.w) X.A (pyIter v) (PIE X pins σ tg R) X.xe s1) X.xe s
theorem zT {M:Model} {A:Around} {E:Value->Shared->Prop} {s:Shared} {tg:Expr} {it:Addr} {u:Value} {o:Obj} {n:String} {vs:Array Value} {Q:Unit->Shared->Prop} (ho:s.heap.get? it=some o) (hc:o.cls=.type n) (hd:o.data=.fields vs)
  (hn : ["enumerate", "zip", "dict_itemiterator", "dict_reverseitemiterator", "odict_iterator", "itertools.zip_longest", "itertools.pairwise"].contains n=false) (hQ:Q () s):wpAny M A (letOwnedTupleGo tg (.ref it) u) Q E s:=by
 unfold letOwnedTupleGo
 cases tg <;> first
  | exact wpAny_pure hQ
  | (cases u <;> first
    | exact wpAny_pure hQ
    | (refine wpAny_bind (wpAny_load ho ?_)
       rw [hc,hd]
       show wpAny M A (if (["enumerate", "zip", "dict_itemiterator", "dict_reverseitemiterator", "odict_iterator", "itertools.zip_longest", "itertools.pairwise"].contains n && vs[0]?==some (rawInt _))=true then _ else _) Q E s
       rw [if_neg (by intro h; rw [hn,Wh] at h; cases h)]
       exact wpAny_pure hQ))
def Itl (K:PySem.W.Frag) (a:Addr):It :=
 ⟨fun i H=>∃ xs x,SqL K H a xs/\xs[i]?=some x,fun i H x H'=>H'=H/\∀ xs,SqL K H a xs->xs[i]?=some x,fun i H=>∃ xs,SqL K H a xs/\xs.length<=i⟩
def Itt (K:PySem.W.Frag) (a:Addr):It :=
 ⟨fun i H=>∃ xs x,SqT K H a xs/\xs[i]?=some x,fun i H x H'=>H'=H/\∀ xs,SqT K H a xs->xs[i]?=some x,fun i H=>∃ xs,SqT K H a xs/\xs.length<=i⟩
def Itr (lo:Int) (n:Nat):It:=⟨fun i _=>i < n,fun i H x H'=>H'=H/\x=.int (lo+i),fun i _=>n<=i⟩
theorem aAP {P:Program} {w:World} {K:PySem.W.Frag} {tg:Expr} (a it:Addr):Turn P w K tg (Itl K a) [it] it (fun i h=>h.IsListIter it a i) where
 mem:=by simp
 obj:=fun i h st b hb=>by
  have e:b=it:=by simpa using hb
  subst e
  obtain ⟨o,e,c,d⟩:=st
  exact ⟨o,e,fun v z=>by rw [d] at z; cases z⟩
 keep:=fun i h h' st k=>st.at fun o e=>k it (by simp) o e
 item:=by
  intro X hP hw hK hc i pins s σ H E I hf st hg
  subst hP hw hK
  obtain ⟨xs,x,hq,hx⟩:=hg
  obtain ⟨its,rv,p,hz⟩:=I.list hq
  obtain ⟨u,hu,ru⟩:=rv.get hx
  obtain ⟨f0,f1,f2,f3,f4,f5⟩:=hf it (by simp)
  refine wpAny_pyNext_list_item st p.isList (x:=u) (by simpa using hu) fun h' st' sb=>?_
  have I1:Inv X pins σ H { s with heap:=h' }:=I.turned (t':=s.toks) (fun b o hb e=>(sb.2 b hb).trans e) f0 f1 f3 f4 f5
  obtain ⟨o,e,c,d⟩:=id st'
  exact ⟨u,rfl,zT (s:={ s with heap:=h' }) e c d (by decide) ⟨x,H,I1,ru,⟨rfl,fun ys hy=>by rw [I.list_inj hy hq]; exact hx⟩,st',fun b hb=>(hf b hb).1⟩⟩
 done:=by
  intro X hP hw hK hc i pins s σ H E I hf st hg
  subst hP hw hK
  obtain ⟨xs,hq,hx⟩:=hg
  obtain ⟨its,rv,p,hz⟩:=I.list hq
  obtain ⟨f0,f1,f2,f3,f4,f5⟩:=hf it (by simp)
  have hl:=rv.length
  exact wpAny_pyNext_list_end (I.ok.hd hc) st p.isList (by simp; omega) fun h' eb=>⟨rfl,I.turned (t':=s.toks) (fun b o hb e=>eb b o hb e) f0 f1 f3 f4 f5⟩
 self:=fun _ _ _ _ _ st h=>wpAny_pyIter_listiter st h
theorem xW {P:Program} {w:World} {K:PySem.W.Frag} {tg:Expr} (a it:Addr):Turn P w K tg (Itt K a) [it] it (fun i h=>h.IsTupleIter it a i) where
 mem:=by simp
 obj:=fun i h st b hb=>by
  have e:b=it:=by simpa using hb
  subst e
  obtain ⟨o,e,c,d⟩:=st
  exact ⟨o,e,fun v z=>by rw [d] at z; cases z⟩
 keep:=fun i h h' st k=>st.at fun o e=>k it (by simp) o e
 item:=by
  intro X hP hw hK hc i pins s σ H E I hf st hg
  subst hP hw hK
  obtain ⟨xs,x,hq,hx⟩:=hg
  obtain ⟨its,rv,p,hz⟩:=I.tuple hq
  obtain ⟨u,hu,ru⟩:=rv.get hx
  obtain ⟨f0,f1,f2,f3,f4,f5⟩:=hf it (by simp)
  refine wpAny_pyNext_tuple_item st (show s.heap.IsTuple a its.toArray from p) (x:=u) (by simpa using hu) fun h' st' sb=>?_
  have I1:Inv X pins σ H { s with heap:=h' }:=I.turned (t':=s.toks) (fun b o hb e=>(sb.2 b hb).trans e) f0 f1 f3 f4 f5
  obtain ⟨o,e,c,d⟩:=id st'
  exact ⟨u,rfl,zT (s:={ s with heap:=h' }) e c d (by decide) ⟨x,H,I1,ru,⟨rfl,fun ys hy=>by rw [I.tuple_inj hy hq]; exact hx⟩,st',fun b hb=>(hf b hb).1⟩⟩
 done:=by
  intro X hP hw hK hc i pins s σ H E I hf st hg
  subst hP hw hK
  obtain ⟨xs,hq,hx⟩:=hg
  obtain ⟨its,rv,p,hz⟩:=I.tuple hq
  obtain ⟨f0,f1,f2,f3,f4,f5⟩:=hf it (by simp)
  have hl:=rv.length
  exact wpAny_pyNext_tuple_end (I.ok.hd hc) st (show s.heap.IsTuple a its.toArray from p) (by simp; omega) fun h' eb=>⟨rfl,I.turned (t':=s.toks) (fun b o hb e=>eb b o hb e) f0 f1 f3 f4 f5⟩
 self:=fun _ _ _ _ _ st h=>wpAny_pyIter_tupleiter st h
theorem xX {P:Program} {w:World} {K:PySem.W.Frag} {tg:Expr} (it:Addr) (lo:Int) (n:Nat):Turn P w K tg (Itr lo n) [it] it (fun i h=>IsRangeIter h it (lo+(i:Nat)*1) ((n:Int) - (i:Nat)) 1) where
 mem:=by simp
 obj:=fun i h st b hb=>by
  have e:b=it:=by simpa using hb
  subst e
  exact ⟨_,st,fun v z=>by
   have z':Data.fields _=Data.cell v:=z
   cases z'⟩
 keep:=fun i h h' st k=>k it (by simp) _ st
 item:=by
  intro X hP hw hK hc i pins s σ H E I hf st hg
  subst hP hw hK
  obtain ⟨f0,f1,f2,f3,f4,f5⟩:=hf it (by simp)
  have W:=Walks.range (prog:=X.prog) (w:=X.w) (I.ok.hd hc) it lo 1 n
  refine W.item i s _ _ hg st fun v h' tk hv st' kk=>?_
  obtain ⟨t,rfl⟩:=hv
  have I1:Inv X pins σ H { s with heap:=h',toks:=tk }:=I.turned (fun b o hb e=>kk b o (by simpa using hb) e) f0 f1 f3 f4 f5
  refine ⟨_,rfl,zT (s:={ s with heap:=h',toks:=tk }) (n := "range_iterator") st' rfl rfl (by decide) ⟨.int (lo+i),H,I1,⟨t,?_⟩,⟨rfl,rfl⟩,st',fun b hb=>(hf b hb).1⟩⟩
  rw [Yw]
 done:=by
  intro X hP hw hK hc i pins s σ H E I hf st hg
  subst hP hw hK
  obtain ⟨f0,f1,f2,f3,f4,f5⟩:=hf it (by simp)
  exact wpAny_pyNext_range_end (I.ok.hd hc) st (by have:n<=i:=hg; omega) fun h' eb=>⟨rfl,I.turned (t':=s.toks) (fun b o hb e=>eb b o hb e) f0 f1 f3 f4 f5⟩
 self:=fun _ _ _ _ _ st h=>wpAny_pyIter_rangeiter st h
section
variable {X:Cx} {tg:Expr}
def aFa (K:PySem.W.Frag) (tl:TE):TI:=fun σ H R=>tl σ H fun x H1=>∃ a,x=.ref a/\(∃ xs,SqL K H1 a xs)/\R (Itl K a) H1
def aFb (K:PySem.W.Frag) (tl:TE):TI:=fun σ H R=>tl σ H fun x H1=>∃ a,x=.ref a/\(∃ xs,SqT K H1 a xs)/\R (Itt K a) H1
theorem jJ {l:Expr} {tl:TE} (hl:PE X l tl):PI X tg l (aFa X.K tl):=by
 intro pins s σ H R I h
 refine thn (hl pins s σ H _ I h) fun v s1 hx9=>?_
 obtain ⟨x,H1,I1,r1,q1⟩:=hx9
 obtain ⟨a,e,⟨xs,hq⟩,q⟩:=q1
 subst e
 cases r1
 obtain ⟨its,rv,p,hz⟩:=I1.list hq
 refine wpAny_pyIter_list p.isList ?_
 refine ⟨s1.heap.objs.size,[s1.heap.objs.size],_,_,H1,rfl,I1.kept (t':=s1.toks) fun b o e=>Qa _ e,aAP a _,⟨_,Qi _ rfl,rfl,rfl⟩,fun b hb=>?_,q⟩
 have e:b=s1.heap.objs.size:=by simpa using hb
 subst e
 exact I1.fpOk (Qh _) (I1.hok.fresh (Qh _))
theorem eL {l:Expr} {tl:TE} (hl:PE X l tl):PI X tg l (aFb X.K tl):=by
 intro pins s σ H R I h
 refine thn (hl pins s σ H _ I h) fun v s1 hx9=>?_
 obtain ⟨x,H1,I1,r1,q1⟩:=hx9
 obtain ⟨a,e,⟨xs,hq⟩,q⟩:=q1
 subst e
 cases r1
 obtain ⟨its,rv,p,hz⟩:=I1.tuple hq
 refine wpAny_pyIter_tuple (show s1.heap.IsTuple a its.toArray from p) ?_
 refine ⟨s1.heap.objs.size,[s1.heap.objs.size],_,_,H1,rfl,I1.kept (t':=s1.toks) fun b o e=>Qa _ e,xW a _,⟨_,Qi _ rfl,rfl,rfl⟩,fun b hb=>?_,q⟩
 have e:b=s1.heap.objs.size:=by simpa using hb
 subst e
 exact I1.fpOk (Qh _) (I1.hok.fresh (Qh _))
theorem vP {pins:List (Addr×Obj)} {σ:St} {H:Hp} {s:Shared} {R:It->Hp->Prop} {E:Value->Shared->Prop} {lo hi:Int} {t u v:Tok} {tk:Nat} (I:Inv X pins σ H s) (h1:-(2^62)<=lo) (h2:lo < 2^62) (h3:-(2^62)<=hi) (h4:hi < 2^62)
  (q:R (Itr lo (hi - lo).toNat) H):wpAny (model X.prog X.w) X.A (pyIter (.ref s.heap.objs.size)) (PIE X pins σ tg R) E { s with heap:=s.heap.push { cls:=.type "range",data:=.fields #[.int lo t,.int hi u,.int 1 v] },toks:=tk }:=by
 refine wpAny_pyIter_range (IsRange.new ..) (small_one h1 h2 h3 h4) ?_
 have I1:Inv X pins σ H { s with heap:=s.heap.push { cls:=.type "range",data:=.fields #[.int lo t,.int hi u,.int 1 v] },toks:=tk }:=I.kept fun b o e=>Qa _ e
 refine ⟨(s.heap.push { cls:=.type "range",data:=.fields #[.int lo t,.int hi u,.int 1 v] }).objs.size,[(s.heap.push { cls:=.type "range",data:=.fields #[.int lo t,.int hi u,.int 1 v] }).objs.size],_,_,H,rfl,
  I1.kept (t':=tk) fun b o e=>Qa _ e,xX _ lo (hi - lo).toNat,?_,fun b hb=>?_,q⟩
 ·have e1:lo+((0:Nat):Int)*1=lo:=by simp
  have e2:(((hi - lo).toNat:Nat):Int) - ((0:Nat):Int)=Builtin.Range.rangeSize lo hi 1:=by rw [rangeSize_one]; split <;> omega
  show IsRangeIter _ _ (lo+((0:Nat):Int)*1) ((((hi - lo).toNat:Nat):Int) - ((0:Nat):Int)) 1
  rw [e1,e2]
  exact Qi _ rfl
 ·have e:b=(s.heap.push { cls:=.type "range",data:=.fields #[.int lo t,.int hi u,.int 1 v] }).objs.size:=by simpa using hb
  subst e
  exact I1.fpOk (Qh _) (I1.hok.fresh (Qh _))
def aFc (ta:TA):TI:=fun σ H R=>ta σ H fun vs H1=>∃ j:Int,vs = [.int j]/\-(2^62)<=j/\j < 2^62/\R (Itr 0 j.toNat) H1
def aFd (ta:TA):TI:=fun σ H R=>ta σ H fun vs H1=>∃ i j:Int,vs = [.int i,.int j]/\(-(2^62)<=i/\i < 2^62/\-(2^62)<=j/\j < 2^62)/\R (Itr i (j - i).toNat) H1
theorem cK {a:Expr} {ta:TA} {p pos:Pos} (hg:Gl X "range") (hm:X.mg "range" = none) (ha:PA X [a] ta) (hs:starEach [a] X.env = [(false,eval a X.env)]:=by rfl):PI X tg (.Call (.Name "range" p) [a] [] pos) (aFc ta):=by
 intro pins s σ H R I h
 refine Call_ (hJ I hg hm boot_range (PyProof.Rows.callWith_type1 (thn (ha pos pins s σ H _ I h) fun us s1 hx9=>?_) hs rfl))
 obtain ⟨vs,H1,I1,r1,q1⟩:=hx9
 obtain ⟨j,e,q1,q2,q⟩:=q1
 subst e
 cases r1 with
 | cons r rr =>
  cases rr
  obtain ⟨t,rfl⟩:=r
  exact call_range_1 (vP I1 (by omega) (by omega) q1 q2 (by simpa using q))
theorem aAQ {a b:Expr} {ta:TA} {p pos:Pos} (hg:Gl X "range") (hm:X.mg "range" = none) (ha:PA X [a,b] ta) (hs:starEach [a,b] X.env = [(false,eval a X.env),(false,eval b X.env)]:=by rfl) (hs2:starEach [b] X.env = [(false,eval b X.env)]:=by rfl) :
  PI X tg (.Call (.Name "range" p) [a,b] [] pos) (aFd ta):=by
 intro pins s σ H R I h
 refine Call_ (hJ I hg hm boot_range (PyProof.Rows.callWith_type1 (thn (ha pos pins s σ H _ I h) fun us s1 hx9=>?_) (by rw [hs,hs2]) (by rw [hs2]; rfl)))
 obtain ⟨vs,H1,I1,r1,q1⟩:=hx9
 obtain ⟨i,j,e,⟨q1,q2,q3,q4⟩,q⟩:=q1
 subst e
 cases r1 with
 | cons r rr =>
  cases rr with
  | cons r' rr =>
   cases rr
   obtain ⟨t,rfl⟩:=r
   obtain ⟨t',rfl⟩:=r'
   exact call_range_2 (vP I1 q1 q2 q3 q4 q)
def aFQ (wi:TI) (g:TG) (tb:TS):TS:=fun D σ H=>wi σ H fun J H1=>∃ W:Nat->Nat->St->Hp->Prop,(∃ m,W 0 m σ H1)/\∀ i m σ H,W i m σ H ->
 (J.stop i H/\D.nx σ H)∨(J.go i H/\∃ N:St->Hp->Prop,(∀ σ' H',N σ' H'->∃ m',m' < m/\W (i+1) m' σ' H')/\∀ x H',J.yld i H x H'->g x σ H' fun σ2 H2=>tb { D with nx:=N,ct:=N,bk:=D.nx } σ2 H2)
def kD (fp:List Addr) (h:Heap):List (Addr×Obj):=fp.filterMap fun b=>(h.get? b).map fun o=>(b,o)
theorem cX {fp:List Addr} {h:Heap} {b:Addr} {o:Obj} (hb:b∈fp) (e:h.get? b=some o):(b,o)∈kD fp h:=Wo.mpr ⟨b,hb,by rw [e]; rfl⟩
theorem sT {fp:List Addr} {h:Heap} {p:Addr×Obj} (hp:p∈kD fp h):p.1∈fp/\h.get? p.1=some p.2:=by
 obtain ⟨b,hb,e⟩:=Wo.mp hp
 cases q:h.get? b with
 | none=>rw [q] at e; cases e
 | some o =>
  rw [q] at e
  have e':(b,o)=p:=Option.some.inj e
  subst e'
  exact ⟨hb,q⟩
theorem Inv.pinned {pins:List (Addr×Obj)} {σ:St} {H:Hp} {s:Shared} {fp:List Addr} (I:Inv X pins σ H s) (hf:∀ b∈fp,kC X pins H b) (ho:∀ b∈fp,∃ o,s.heap.get? b=some o/\∀ v,o.data≠.cell v):Inv X (pins++kD fp s.heap) σ H s :=
 I.pins_of fun p hp=>(Jk.mp hp).elim (fun z=>I.pin p (Qt _ z)) fun z=>by
  obtain ⟨hb,e⟩:=sT z
  obtain ⟨f0,f1,f2,_⟩:=hf p.1 hb
  obtain ⟨o,e',d⟩:=ho p.1 hb
  rw [e] at e'; cases e'
  exact ⟨e,f0,f1,f2,d⟩
theorem Inv.unpinned {pins pl:List (Addr×Obj)} {σ:St} {H:Hp} {s:Shared} (I:Inv X (pins++pl) σ H s):Inv X pins σ H s:=I.pins_of fun p hp=>I.pin p (Qt _ (Jl _ hp))
theorem dZ {iter:Expr} {body:List Stmt} {wi:TI} {g:TG} {tb:TS} {pos:Pos} (hp:PassesOwn (model X.prog X.w) X.A X.env X.xe) (hc:X.calm=true) (hi:PI X tg iter wi) (hg:PG X tg g) (hb:PSs X body tb)
  (hs:∀ x,foldedSetIterable iter X.env x=pure x:=by intro _; rfl):PS X (.For tg iter body [] pos) (aFQ wi g tb):=by
 intro pins s σ H D I h
 refine wpAny_For (thn (hi pins s σ H _ I h) fun v s1 h1=>thn h1 fun itv s2 h2=>?_) hs
 obtain ⟨it,fp,tn,J,H2,e,I2,T,st2,f2,W,⟨m0,w0⟩,turn⟩:=h2
 subst e
 -- what stays true of the iterator's objects through the loop
 have stat:∀ {H':Hp},(∀ b∈fp,H' b=none)->∀ b∈fp,kC X pins H' b:=fun hn b hb=>⟨hn b hb,(f2 b hb).2⟩
 refine codeAny_forLoop_any (fun n s'=>∃ i σ' H',Inv X pins σ' H' s'/\tn i s'.heap/\(∀ b∈fp,H' b=none)/\W i n σ' H') ?_ m0 ⟨0,σ,H2,I2,st2,fun b hb=>(f2 b hb).1,w0⟩
 rintro n s3 ⟨i,σ3,H3,I3,st3,fr3,w3⟩
 rcases turn i n σ3 H3 w3 with ⟨stop,qn⟩ | ⟨go,N,hN,step⟩
 ·refine wpAny_passesOwn hp (thn (T.done X rfl rfl rfl hc i pins s3 σ3 H3 X.xe I3 (stat fr3) st3 stop) fun r s4 hx9=>?_)
  obtain ⟨hr,I4⟩:=hx9
  subst hr
  exact wpAny_execs_nil ⟨σ3,H3,I4,qn⟩
 ·refine wpAny_passesOwn hp (thn (T.item X rfl rfl rfl hc i pins s3 σ3 H3 X.xe I3 (stat fr3) st3 go) fun r s4 hx9=>?_)
  obtain ⟨u,hr,h4⟩:=hx9
  subst hr
  refine wpAny_passesOwn hp (thn h4 fun _ s5 hx9=>?_)
  obtain ⟨x,H5,I5,r5,y5,st5,fr5⟩:=hx9
  have I5':=I5.pinned (stat fr5) (T.obj _ _ st5)
  refine wpAny_passesOwn hp (thn (hg _ s5 σ3 H5 x u _ I5' r5 (step x H5 y5)) fun _ s6 hx9=>?_)
  obtain ⟨σ6,H6,I6,q6⟩:=hx9
  refine wpAny_passesOwn hp (thn (hb _ s6 σ6 H6 _ I6 q6) fun f s7 q7=>?_)
  have again:∀ {σ7:St} {H7:Hp},Inv X (pins++kD fp s5.heap) σ7 H7 s7->N σ7 H7->∃ m,m < n/\∃ i σ' H',Inv X pins σ' H' s7/\tn i s7.heap/\(∀ b∈fp,H' b=none)/\W i m σ' H':=fun {σ7 H7} I7 n7=>by
   obtain ⟨m',hm,w7⟩:=hN σ7 H7 n7
   refine ⟨m',hm,i+1,σ7,H7,I7.unpinned,T.keep _ _ _ st5 fun b hb o e=>(I7.pin (b,o) (Qt _ (Qt _ (cX hb e)))).1,fun b hb=>?_,w7⟩
   obtain ⟨o,e,d⟩:=T.obj _ _ st5 b hb
   exact (I7.pin (b,o) (Qt _ (Qt _ (cX hb e)))).2.1
  cases f with
  | next=>obtain ⟨σ7,H7,I7,n7⟩:=q7; exact again I7 n7
  | cont=>obtain ⟨σ7,H7,I7,n7⟩:=q7; exact again I7 n7
  | brk=>obtain ⟨σ7,H7,I7,q7⟩:=q7; exact ⟨σ7,H7,I7.unpinned,q7⟩
  | ret v=>obtain ⟨x7,σ7,H7,I7,r7,q7⟩:=q7; exact ⟨x7,σ7,H7,I7.unpinned,r7,q7⟩
end
theorem mB {K:PySem.W.Frag} {a:Addr} {xs:List V} {g:TG} {tb:TS} {D:Ends} {σ:St} {H:Hp} (Pv:Nat->St->Hp->Prop) (h0:Pv 0 σ H) (hl:∀ i σ H,i<=xs.length->Pv i σ H->SqL K H a xs)
  (hs:∀ i x σ H,xs[i]?=some x->Pv i σ H->g x σ H fun σ2 H2=>tb { D with nx:=Pv (i+1),ct:=Pv (i+1),bk:=D.nx } σ2 H2) (hd:∀ σ H,Pv xs.length σ H->D.nx σ H) :
  ∃ W:Nat->Nat->St->Hp->Prop,(∃ m,W 0 m σ H)/\∀ i m σ H,W i m σ H ->
   ((Itl K a).stop i H/\D.nx σ H)∨((Itl K a).go i H/\∃ N:St->Hp->Prop,(∀ σ' H',N σ' H'->∃ m',m' < m/\W (i+1) m' σ' H')/\∀ x H',(Itl K a).yld i H x H'->g x σ H' fun σ2 H2=>tb { D with nx:=N,ct:=N,bk:=D.nx } σ2 H2):=by
 refine ⟨fun i m σ H=>m=xs.length - i/\i<=xs.length/\Pv i σ H,⟨xs.length,by simp,Jo _,h0⟩,?_⟩
 rintro i m σ H ⟨rfl,hi,p⟩
 have q:=hl i σ H hi p
 by_cases hlt:i < xs.length
 ·refine .inr ⟨⟨xs,xs[i],q,by simp [hlt]⟩,Pv (i+1),fun σ' H' p'=>⟨xs.length - (i+1),by omega,rfl,hlt,p'⟩,fun x H' y=>?_⟩
  obtain ⟨e,y⟩:=y
  subst e
  exact hs i x σ _ (y xs q) p
 ·have e:i=xs.length:=by omega
  subst e
  exact .inl ⟨⟨xs,q,Qh _⟩,hd σ H p⟩
theorem uE {K:PySem.W.Frag} {a:Addr} {xs:List V} {g:TG} {tb:TS} {D:Ends} {σ:St} {H:Hp} (Pv:Nat->St->Hp->Prop) (h0:Pv 0 σ H) (hl:∀ i σ H,i<=xs.length->Pv i σ H->SqT K H a xs)
  (hs:∀ i x σ H,xs[i]?=some x->Pv i σ H->g x σ H fun σ2 H2=>tb { D with nx:=Pv (i+1),ct:=Pv (i+1),bk:=D.nx } σ2 H2) (hd:∀ σ H,Pv xs.length σ H->D.nx σ H) :
  ∃ W:Nat->Nat->St->Hp->Prop,(∃ m,W 0 m σ H)/\∀ i m σ H,W i m σ H ->
   ((Itt K a).stop i H/\D.nx σ H)∨((Itt K a).go i H/\∃ N:St->Hp->Prop,(∀ σ' H',N σ' H'->∃ m',m' < m/\W (i+1) m' σ' H')/\∀ x H',(Itt K a).yld i H x H'->g x σ H' fun σ2 H2=>tb { D with nx:=N,ct:=N,bk:=D.nx } σ2 H2):=by
 refine ⟨fun i m σ H=>m=xs.length - i/\i<=xs.length/\Pv i σ H,⟨xs.length,by simp,Jo _,h0⟩,?_⟩
 rintro i m σ H ⟨rfl,hi,p⟩
 have q:=hl i σ H hi p
 by_cases hlt:i < xs.length
 ·refine .inr ⟨⟨xs,xs[i],q,by simp [hlt]⟩,Pv (i+1),fun σ' H' p'=>⟨xs.length - (i+1),by omega,rfl,hlt,p'⟩,fun x H' y=>?_⟩
  obtain ⟨e,y⟩:=y
  subst e
  exact hs i x σ _ (y xs q) p
 ·have e:i=xs.length:=by omega
  subst e
  exact .inl ⟨⟨xs,q,Qh _⟩,hd σ H p⟩
theorem gM {lo:Int} {n:Nat} {g:TG} {tb:TS} {D:Ends} {σ:St} {H:Hp} (Pv:Nat->St->Hp->Prop) (h0:Pv 0 σ H)
  (hs:∀ i σ H,i < n->Pv i σ H->g (.int (lo+i)) σ H fun σ2 H2=>tb { D with nx:=Pv (i+1),ct:=Pv (i+1),bk:=D.nx } σ2 H2) (hd:∀ σ H,Pv n σ H->D.nx σ H) :
  ∃ W:Nat->Nat->St->Hp->Prop,(∃ m,W 0 m σ H)/\∀ i m σ H,W i m σ H ->
   ((Itr lo n).stop i H/\D.nx σ H)∨((Itr lo n).go i H/\∃ N:St->Hp->Prop,(∀ σ' H',N σ' H'->∃ m',m' < m/\W (i+1) m' σ' H')/\∀ x H',(Itr lo n).yld i H x H'->g x σ H' fun σ2 H2=>tb { D with nx:=N,ct:=N,bk:=D.nx } σ2 H2):=by
 refine ⟨fun i m σ H=>m=n - i/\i<=n/\Pv i σ H,⟨n,by simp,Jo _,h0⟩,?_⟩
 rintro i m σ H ⟨rfl,hi,p⟩
 by_cases hlt:i < n
 ·refine .inr ⟨hlt,Pv (i+1),fun σ' H' p'=>⟨n - (i+1),by omega,rfl,hlt,p'⟩,fun x H' y=>?_⟩
  obtain ⟨e,y⟩:=y
  subst e y
  exact hs i σ _ hlt p
 ·have e:i=n:=by omega
  subst e
  exact .inl ⟨Qh _,hd σ H p⟩
abbrev R2:=V->V->Hp->VK->Prop
def OpR (X:Cx) (f:Value->Value->Sem Value) (r:R2):Prop :=
 ∀ (pins:List (Addr×Obj)) (s:Shared) (σ:St) (H:Hp) (x y:V) (v u:Value) (Q:VK),Inv X pins σ H s->bM x v->bM y u->r x y H Q ->
  wpAny (model X.prog X.w) X.A (f v u) (EP X pins σ Q) X.xe s
def UnR (X:Cx) (f:Value->Sem Value) (r:V->Hp->VK->Prop):Prop :=
 ∀ (pins:List (Addr×Obj)) (s:Shared) (σ:St) (H:Hp) (x:V) (v:Value) (Q:VK),Inv X pins σ H s->bM x v->r x H Q ->
  wpAny (model X.prog X.w) X.A (f v) (EP X pins σ Q) X.xe s
def eI (X:Cx) (f:Value) (r:List V->Hp->VK->Prop):Prop :=
 ∀ (pins:List (Addr×Obj)) (s:Shared) (σ:St) (H:Hp) (xs:List V) (us:List Value) (Q:VK),Inv X pins σ H s->bG xs us->r xs H Q ->
  wpAny (model X.prog X.w) X.A (call f us) (EP X pins σ Q) X.xe s
def aFR (X:Cx) (r:V->Hp->(Bool->Hp->Prop)->Prop):Prop :=
 ∀ (pins:List (Addr×Obj)) (s:Shared) (σ:St) (H:Hp) (x:V) (v:Value) (Q:Bool->Hp->Prop),Inv X pins σ H s->bM x v->r x H Q ->
  wpAny (model X.prog X.w) X.A (truthy v) (TP X pins σ Q) X.xe s
def tOp (r:R2) (ta tb:TE):TE:=fun σ H Q=>ta σ H fun x H1=>tb σ H1 fun y H2=>r x y H2 Q
def tUn (r:V->Hp->VK->Prop) (ta:TE):TE:=fun σ H Q=>ta σ H fun x H1=>r x H1 Q
def rI (C:Int->Int->Prop) (g:Int->Int->V):R2:=fun x y H Q=>∃ i j,x=.int i/\y=.int j/\C i j/\Q (g i j) H
def rI0 (g:Int->Int->V):R2:=fun x y H Q=>∃ i j,x=.int i/\y=.int j/\Q (g i j) H
def rU (g:Int->V):V->Hp->VK->Prop:=fun x H Q=>∃ i,x=.int i/\Q (g i) H
section
variable {X:Cx} {a b c:Expr} {ta tb tc:TE} {pos:Pos}
theorem aEp (ha:PE X a ta) (hb:PE X b tb) {pins:List (Addr×Obj)} {s:Shared} {σ:St} {H:Hp} {R:V->V->Hp->Prop} (I:Inv X pins σ H s)
  (h:ta σ H fun x H1=>tb σ H1 fun y H2=>R x y H2) {Q:Value->Shared->Prop} {f:Value->Value->Sem Value}
  (hf:∀ v u s2 x y H2,Inv X pins σ H2 s2->bM x v->bM y u->R x y H2->wpAny (model X.prog X.w) X.A (f v u) Q X.xe s2) :
  wpAny (model X.prog X.w) X.A (eval a X.env) (fun v s₁=>wpAny (model X.prog X.w) X.A (eval b X.env) (fun u s₂=>wpAny (model X.prog X.w) X.A (f v u) Q X.xe s₂) X.xe s₁) X.xe s:=by
 refine thn (ha pins s σ H _ I h) fun v s1 hx9=>?_
 obtain ⟨x,H1,I1,r1,q1⟩:=hx9
 refine thn (hb pins s1 σ H1 _ I1 q1) fun u s2 hx9=>?_
 obtain ⟨y,H2,I2,r2,q2⟩:=hx9
 exact hf v u s2 x y H2 I2 r1 r2 q2
theorem cL {op:Operator} {r:R2} (ho:OpR X (binaryOp op) r) (ha:PE X a ta) (hb:PE X b tb):PE X (.BinOp a op b pos) (tOp r ta tb):=by
 intro pins s σ H Q I h
 exact wpAny_BinOp (aEp ha hb I h fun v u s2 x y H2 I2 rx ry q=>ho pins s2 σ H2 x y v u Q I2 rx ry q)
theorem sU {op:UnaryOp} {r:V->Hp->VK->Prop} (ho:UnR X (unaryOp op) r) (ha:PE X a ta):PE X (.UnaryOp op a pos) (tUn r ta):=by
 intro pins s σ H Q I h
 refine UnaryOp_ (thn (ha pins s σ H _ I h) fun v s1 hx9=>?_)
 obtain ⟨x,H1,I1,r1,q1⟩:=hx9
 exact ho pins s1 σ H1 x v Q I1 r1 q1
theorem opI {f:Value->Value->Sem Value} {C:Int->Int->Prop} {g:Int->Int->Int}
  (rule:∀ (i j:Int) (t u:Tok) (s:Shared) (Q:Value->Shared->Prop) (E:Value->Shared->Prop),C i j->Q (.int (g i j) s.toks) { s with toks:=s.toks+1 }->wpAny (model X.prog X.w) X.A (f (.int i t) (.int j u)) Q E s) :
  OpR X f (rI C fun i j=>.int (g i j)):=by
 intro pins s σ H x y v u Q I rx ry h
 obtain ⟨i,j,rfl,rfl,hc,q⟩:=h
 obtain ⟨t,rfl⟩:=rx
 obtain ⟨t',rfl⟩:=ry
 exact rule i j t t' s _ _ hc ⟨.int (g i j),H,I.tok _,⟨_,rfl⟩,q⟩
theorem aFe {f:Value->Value->Sem Value} {g:Int->Int->Int}
  (rule:∀ (i j:Int) (t u:Tok) (s:Shared) (Q:Value->Shared->Prop) (E:Value->Shared->Prop),Q (.int (g i j) s.toks) { s with toks:=s.toks+1 }->wpAny (model X.prog X.w) X.A (f (.int i t) (.int j u)) Q E s) :
  OpR X f (rI0 fun i j=>.int (g i j)):=by
 intro pins s σ H x y v u Q I rx ry h
 obtain ⟨i,j,rfl,rfl,q⟩:=h
 obtain ⟨t,rfl⟩:=rx
 obtain ⟨t',rfl⟩:=ry
 exact rule i j t t' s _ _ ⟨.int (g i j),H,I.tok _,⟨_,rfl⟩,q⟩
theorem aDd {f:Value->Value->Sem Value} {g:Int->Int->Bool}
  (rule:∀ (i j:Int) (t u:Tok) (s:Shared) (Q:Value->Shared->Prop) (E:Value->Shared->Prop),Q (.bool (g i j)) s->wpAny (model X.prog X.w) X.A (f (.int i t) (.int j u)) Q E s) :
  OpR X f (rI0 fun i j=>.bl (g i j)):=by
 intro pins s σ H x y v u Q I rx ry h
 obtain ⟨i,j,rfl,rfl,q⟩:=h
 obtain ⟨t,rfl⟩:=rx
 obtain ⟨t',rfl⟩:=ry
 exact rule i j t t' s _ _ ⟨.bl (g i j),H,I,rfl,q⟩
def aFS (i j:Int):Prop:=0 < j/\j < 1073741824
def aEq (i j:Int):Prop:=(-(2^64) < i/\i < 2^64)∨(-(2^64) < j/\j < 2^64)
theorem aEq.ok {i j:Int} (h:aEq i j):IntMulOk i j:=by
 rcases h with ⟨h1,h2⟩ | ⟨h1,h2⟩
 ·exact .of_left (intBits_le_64 h1 h2)
 ·exact .of_right (intBits_le_64 h1 h2)
theorem iH:OpR X (binaryOp .Add) (rI0 fun i j=>.int (i+j)):=aFe fun _ _ _ _ _ _ _ q=>add_int q
theorem xY:OpR X (binaryOp .Sub) (rI0 fun i j=>.int (i - j)):=aFe fun _ _ _ _ _ _ _ q=>sub_int q
theorem nN:OpR X (binaryOp .Mult) (rI aEq fun i j=>.int (i*j)):=opI fun _ _ _ _ _ _ _ hc q=>mul_int q hc.ok
theorem zU:OpR X (binaryOp .FloorDiv) (rI aFS fun i j=>.int (i / j)):=opI fun i j _ _ _ _ _ hc q=>by
 have h1:(0:Int) < j:=hc.1
 have h2:j < 1073741824:=hc.2
 exact floordiv_int (by omega) (by rw [Yl i (by omega)]; exact q) (.inl (PyProof.noPylong_small (by omega)))
theorem pK:OpR X (binaryOp .Mod) (rI (fun _ j=>0 < j) fun i j=>.int (i % j)):=opI fun i j _ _ _ _ _ hc q=>by
 have h1:(0:Int) < j:=hc
 exact mod_int' (by omega) (by rw [Int.fmod_eq_emod_of_nonneg i (by omega)]; exact q)
theorem unI {f:Value->Sem Value} {g:Int->Int}
  (rule:∀ (i:Int) (t:Tok) (s:Shared) (Q:Value->Shared->Prop) (E:Value->Shared->Prop),Q (.int (g i) s.toks) { s with toks:=s.toks+1 }->wpAny (model X.prog X.w) X.A (f (.int i t)) Q E s) :
  UnR X f (rU fun i=>.int (g i)):=by
 intro pins s σ H x v Q I rx h
 obtain ⟨i,rfl,q⟩:=h
 obtain ⟨t,rfl⟩:=rx
 exact rule i t s _ _ ⟨.int (g i),H,I.tok _,⟨_,rfl⟩,q⟩
theorem nO:UnR X (unaryOp .USub) (rU fun i=>.int (-i)):=unI fun _ _ _ _ _ q=>neg_int q
def aFf:V->V->Bool
 | .non,.non=>true | .non,.int _=>true | .int _,.non=>true | .non,.bl _=>true | .bl _,.non=>true | .non,.str _=>true | .str _,.non=>true
 | .int _,.int _=>true | .bl _,.bl _=>true | .str _,.str _=>true | .byt _,.byt _=>true
 | .int _,.str _=>true | .str _,.int _=>true | .bl _,.str _=>true | .str _,.bl _=>true
 | _,_=>false
def rEq:R2:=fun x y H Q=>aFf x y=true/\Q (.bl (decide (x=y))) H
def rNe:R2:=fun x y H Q=>aFf x y=true/\Q (.bl (!decide (x=y))) H
theorem zV {i j:Int}:decide (V.int i=V.int j)=(i==j):=by
 rw [Xc]
 simp
theorem aBK {i j:Bool}:decide (V.bl i=V.bl j)=(i==j):=by
 rw [Xc]
 simp
theorem zW {i j:Str}:decide (V.str i=V.str j)=(i==j):=by
 rw [Xc]
 simp
theorem zX {i j:Array UInt8}:decide (V.byt i=V.byt j)=(i.toList==j.toList):=by
 rw [Xc]
 cases i
 cases j
 simp
theorem bX {pins:List (Addr×Obj)} {σ:St} {H:Hp} {s:Shared} {Q:VK} {k k':Bool} (I:Inv X pins σ H s) (q:Q (.bl k) H) (e:k=k'):EP X pins σ Q (.bool k') s:=by
 subst e
 exact ⟨.bl k,H,I,rfl,q⟩
theorem lI:OpR X (compareOp .Eq) rEq:=by
 intro pins s σ H x y v u Q I rx ry h
 obtain ⟨hs,q⟩:=h
 cases x with
 | non =>
  cases rx
  cases y with
  | non=>cases ry; exact PySem.EqNone.eq_none_none (bX I q (by simp))
  | bl j=>cases ry; exact PySem.EqNone.eq_none_bool (bX I q (by simp))
  | int j=>obtain ⟨t',rfl⟩:=ry; exact PySem.EqNone.eq_none_int (bX I q (by simp))
  | str j=>obtain ⟨t',rfl⟩:=ry; exact PySem.EqNone.eq_none_str (bX I q (by simp))
  | _=>exact absurd (show false=true from hs) Qv
 | bl i =>
  cases rx
  cases y with
  | non=>cases ry; exact PySem.EqNone.eq_bool_none (bX I q (by simp))
  | bl j=>cases ry; exact eq_bool (bX I q aBK)
  | str j=>obtain ⟨t',rfl⟩:=ry; exact PySem.EqMixed.eq_bool_str (bX I q (by simp))
  | _=>exact absurd (show false=true from hs) Qv
 | int i =>
  obtain ⟨t,rfl⟩:=rx
  cases y with
  | non=>cases ry; exact PySem.EqNone.eq_int_none (bX I q (by simp))
  | int j=>obtain ⟨t',rfl⟩:=ry; exact eq_int (bX I q zV)
  | str j=>obtain ⟨t',rfl⟩:=ry; exact PySem.EqMixed.eq_int_str (bX I q (by simp))
  | _=>exact absurd (show false=true from hs) Qv
 | str i =>
  obtain ⟨t,rfl⟩:=rx
  cases y with
  | non=>cases ry; exact PySem.EqNone.eq_str_none (bX I q (by simp))
  | bl j=>cases ry; exact PySem.EqMixed.eq_str_bool (bX I q (by simp))
  | int j=>obtain ⟨t',rfl⟩:=ry; exact PySem.EqMixed.eq_str_int (bX I q (by simp))
  | str j=>obtain ⟨t',rfl⟩:=ry; exact eq_str (bX I q zW)
  | _=>exact absurd (show false=true from hs) Qv
 | byt i =>
  obtain ⟨t,rfl⟩:=rx
  cases y with
  | byt j=>obtain ⟨t',rfl⟩:=ry; exact PySem.W.eq_bytes (bX I q zX)
  | _=>exact absurd (show false=true from hs) Qv
 | _=>cases y <;> exact absurd (show false=true from hs) Qv
theorem gW:OpR X (compareOp .NotEq) rNe:=by
 intro pins s σ H x y v u Q I rx ry h
 obtain ⟨hs,q⟩:=h
 cases x with
 | non =>
  cases rx
  cases y with
  | non=>cases ry; exact PySem.EqNone.ne_none_none (bX I q (by simp))
  | bl j=>cases ry; exact PySem.EqNone.ne_none_bool (bX I q (by simp))
  | int j=>obtain ⟨t',rfl⟩:=ry; exact PySem.EqNone.ne_none_int (bX I q (by simp))
  | str j=>obtain ⟨t',rfl⟩:=ry; exact PySem.EqNone.ne_none_str (bX I q (by simp))
  | _=>exact absurd (show false=true from hs) Qv
 | bl i =>
  cases rx
  cases y with
  | non=>cases ry; exact PySem.EqNone.ne_bool_none (bX I q (by simp))
  | bl j=>cases ry; exact ne_bool (bX I q (congrArg not aBK))
  | str j=>obtain ⟨t',rfl⟩:=ry; exact PySem.EqMixed.ne_bool_str (bX I q (by simp))
  | _=>exact absurd (show false=true from hs) Qv
 | int i =>
  obtain ⟨t,rfl⟩:=rx
  cases y with
  | non=>cases ry; exact PySem.EqNone.ne_int_none (bX I q (by simp))
  | int j=>obtain ⟨t',rfl⟩:=ry; exact ne_int (bX I q (congrArg not zV))
  | str j=>obtain ⟨t',rfl⟩:=ry; exact PySem.EqMixed.ne_int_str (bX I q (by simp))
  | _=>exact absurd (show false=true from hs) Qv
 | str i =>
  obtain ⟨t,rfl⟩:=rx
  cases y with
  | non=>cases ry; exact PySem.EqNone.ne_str_none (bX I q (by simp))
  | bl j=>cases ry; exact PySem.EqMixed.ne_str_bool (bX I q (by simp))
  | int j=>obtain ⟨t',rfl⟩:=ry; exact PySem.EqMixed.ne_str_int (bX I q (by simp))
  | str j=>obtain ⟨t',rfl⟩:=ry; exact ne_str (bX I q (congrArg not zW))
  | _=>exact absurd (show false=true from hs) Qv
 | byt i =>
  obtain ⟨t,rfl⟩:=rx
  cases y with
  | byt j=>obtain ⟨t',rfl⟩:=ry; exact PySem.W.ne_bytes (bX I q (congrArg not zX))
  | _=>exact absurd (show false=true from hs) Qv
 | _=>cases y <;> exact absurd (show false=true from hs) Qv
theorem oI:OpR X (compareOp .Lt) (rI0 fun i j=>.bl (decide (i < j))):=aDd fun _ _ _ _ _ _ _ q=>lt_int q
theorem mC:OpR X (compareOp .LtE) (rI0 fun i j=>.bl (decide (i<=j))):=aDd fun _ _ _ _ _ _ _ q=>le_int q
theorem zY:OpR X (compareOp .Gt) (rI0 fun i j=>.bl (decide (j < i))):=aDd fun _ _ _ _ _ _ _ q=>gt_int q
theorem aD4:OpR X (compareOp .GtE) (rI0 fun i j=>.bl (decide (j<=i))):=aDd fun _ _ _ _ _ _ _ q=>ge_int q
theorem bE (b:Expr) {op:CmpOp} (h:op≠.In:=by decide) (h2:op≠.NotIn:=by decide):behindInMarks op b=false:=by
 have e1:(op==CmpOp.In)=false:=by cases op <;> first | rfl | exact absurd rfl h
 have e2:(op==CmpOp.NotIn)=false:=by cases op <;> first | rfl | exact absurd rfl h2
 cases b <;> simp [behindInMarks,e1,e2]
theorem eX {op:CmpOp} {r:R2} (ho:OpR X (compareOp op) r) (ha:PE X a ta) (hb:PE X b tb) (hm:behindInMarks op b=false):PE X (.Compare a [op] [b] pos) (tOp r ta tb):=by
 intro pins s σ H Q I h
 exact wpAny_Compare1 (aEp ha hb I h fun v u s2 x y H2 I2 rx ry q=>ho pins s2 σ H2 x y v u Q I2 rx ry q) hm
def aD5 (t:TE):TT:=fun σ H Q=>t σ H fun x H'=>∃ k,x=.bl k/\Q k H'
theorem bB {op:CmpOp} {r:R2} (ho:OpR X (compareOp op) r) (ha:PE X a ta) (hb:PE X b tb) (hm:behindInMarks op b=false):PT X (.Compare a [op] [b] pos) (aD5 (tOp r ta tb)):=by
 intro pins s σ H Q I h
 refine wpAny_isTrue_Compare1 (thn (ha pins s σ H _ I h) fun v s1 ⟨x,H1,I1,r1,q1⟩=>thn (hb pins s1 σ H1 _ I1 q1) fun u s2 ⟨y,H2,I2,r2,q2⟩ =>
  thn (ho pins s2 σ H2 x y v u _ I2 r1 r2 q2) fun c s3 ⟨z,H3,I3,r3,k,e,q3⟩=>?_) hm
 subst e
 cases r3
 exact wpAny_truthy_bool ⟨H3,I3,q3⟩
def aBL (r r':R2) (ta tb tc:TE):TE:=fun σ H Q=>ta σ H fun x H1=>tb σ H1 fun y H2=>r x y H2 fun z H3=>∃ k,z=.bl k /\
 (if k=true then tc σ H3 fun w' H4=>r' y w' H4 Q else Q (.bl false) H3)
theorem vQ {op op':CmpOp} {r r':R2} (ho:OpR X (compareOp op) r) (ho':OpR X (compareOp op') r') (ha:PE X a ta) (hb:PE X b tb) (hc:PE X c tc)
  (hm:lastMarks [op,op'] [b,c]=false:=by with_unfolding_all rfl):PE X (.Compare a [op,op'] [b,c] pos) (aBL r r' ta tb tc):=by
 intro pins s σ H Q I h
 refine Compare_chain (thn (ha pins s σ H _ I h) fun v s1 ⟨x,H1,I1,r1,q1⟩=>chain_link (thn (hb pins s1 σ H1 _ I1 q1) fun u s2 ⟨y,H2,I2,r2,q2⟩ =>
  thn (ho pins s2 σ H2 x y v u _ I2 r1 r2 q2) fun d s3 ⟨z,H3,I3,r3,k,e,q3⟩=>?_)) hm
 subst e
 cases r3
 refine wpAny_truthy_bool ?_
 cases k with
 | false=>exact ite_ff ⟨.bl false,H3,I3,rfl,q3⟩
 | true=>exact ite_tt (chain_last (thn (hc pins s3 σ H3 _ I3 q3) fun w' s4 ⟨z',H4,I4,r4,q4⟩=>ho' pins s4 σ H4 y z' u w' Q I4 r2 r4 q4))
theorem aBM {op op':CmpOp} {r r':R2} (ho:OpR X (compareOp op) r) (ho':OpR X (compareOp op') r') (ha:PE X a ta) (hb:PE X b tb) (hc:PE X c tc)
  (hm:lastMarks [op,op'] [b,c]=false:=by with_unfolding_all rfl):PT X (.Compare a [op,op'] [b,c] pos) (aD5 (aBL r r' ta tb tc)):=by
 intro pins s σ H Q I h
 refine isTrue_chain (thn (ha pins s σ H _ I h) fun v s1 ⟨x,H1,I1,r1,q1⟩=>test_link (thn (hb pins s1 σ H1 _ I1 q1) fun u s2 ⟨y,H2,I2,r2,q2⟩ =>
  thn (ho pins s2 σ H2 x y v u _ I2 r1 r2 q2) fun d s3 ⟨z,H3,I3,r3,k,e,q3⟩=>?_)) hm
 subst e
 cases r3
 refine wpAny_truthy_bool ?_
 cases k with
 | false =>
  obtain ⟨k',e',q'⟩:=q3
  cases e'
  exact ite_ff ⟨H3,I3,q'⟩
 | true =>
  refine ite_tt (test_last (thn (hc pins s3 σ H3 _ I3 q3) fun w' s4 ⟨z',H4,I4,r4,q4⟩=>thn (ho' pins s4 σ H4 y z' u w' _ I4 r2 r4 q4) fun d' s5 hx9=>?_))
  obtain ⟨z2,H5,I5,r5,k2,e2,q5⟩:=hx9
  subst e2
  cases r5
  exact wpAny_truthy_bool ⟨H5,I5,q5⟩
def aFg (K:PySem.W.Frag) (x:V) (H:Hp) (k:Bool):Prop :=
 match x with
 | .non=>k=false
 | .bl b=>k=b
 | .int i=>k=(i !=0)
 | .str y=>y.length<=sizeLine/\k=((y.length:Int) !=0)
 | .byt y=>y.size<=sizeLine/\k=((y.size:Int) !=0)
 | .ref p=>(∃ xs,SqL K H p xs/\k=!xs.isEmpty)∨(∃ xs,SqT K H p xs/\k=!xs.isEmpty)∨∃ kvs,H p=some (.dK kvs)/\k=!kvs.isEmpty
 | _=>False
theorem xZ {κ:Type} {kvs:List (κ×V)} {vs:List (κ×Value)} (r:KV kvs vs):(!vs.isEmpty)=!kvs.isEmpty:=by
 cases r <;> rfl
theorem pL {xs:List V} {its:List Value} (r:bG xs its):(!its.toArray.isEmpty)=!xs.isEmpty:=by
 cases r <;> simp
theorem pM:(sizeLine:Nat) < 2^63:=by rw [sizeLine_eq]; decide
theorem aEr:aFR X (fun x H Q=>∃ k,aFg X.K x H k/\Q k H):=by
 intro pins s σ H x v Q I rx h
 obtain ⟨k,e,q⟩:=h
 have hl:=pM
 have hs:sizeLine=16777216:=sizeLine_eq
 cases x with
 | non =>
  cases rx
  have e':k=false:=e
  subst e'
  exact truthy_none ⟨H,I,q⟩
 | bl b =>
  cases rx
  have e':k=b:=e
  subst e'
  exact wpAny_truthy_bool ⟨H,I,q⟩
 | int i =>
  obtain ⟨t,rfl⟩:=rx
  have e':k=(i !=0):=e
  subst e'
  exact PySem.P.truthy_int ⟨H,I,q⟩
 | str y =>
  obtain ⟨t,rfl⟩:=rx
  obtain ⟨hy,e'⟩:y.length<=sizeLine/\k=((y.length:Int) !=0):=e
  subst e'
  exact PySem.P.truthy_str (by omega) ⟨H,I.tok _,q⟩
 | byt y =>
  obtain ⟨t,rfl⟩:=rx
  obtain ⟨hy,e'⟩:y.size<=sizeLine/\k=((y.size:Int) !=0):=e
  subst e'
  exact PySem.W.truthy_bytes (by omega) ⟨H,I.tok _,q⟩
 | ref p =>
  cases rx
  have e':(∃ xs,SqL X.K H p xs/\k=!xs.isEmpty)∨(∃ xs,SqT X.K H p xs/\k=!xs.isEmpty)∨∃ kvs,H p=some (.dK kvs)/\k=!kvs.isEmpty:=e
  rcases e' with ⟨xs,hx,e'⟩ | ⟨xs,hx,e'⟩ | ⟨kvs,hx,e'⟩
  ·subst e'
   obtain ⟨its,r,pl,hz⟩:=I.list hx
   have hlen:=r.length
   exact wpAny_truthy_list pl.isList (by simp only [Qj]; omega) ⟨H,I.tok _,by rw [pL r]; exact q⟩
  ·subst e'
   obtain ⟨its,r,pl,hz⟩:=I.tuple hx
   have hlen:=r.length
   exact truthy_tuple pl (by simp only [Qj]; omega) ⟨H,I.tok _,by rw [pL r]; exact q⟩
  ·subst e'
   obtain ⟨hz,hS,vs,r,m⟩:kvs.length<=sizeLine/\(p==sysModules)=false/\∃ vs,KV kvs vs/\s.heap.DictOf (bP X.prog X.w) p vs:=I.hok p _ hx
   have hlen:kvs.length=vs.length:=Paired.length r
   exact wpAny_truthy_dict hS m (by omega) ⟨H,I.tok _,by rw [xZ r]; exact q⟩
 | _=>exact (show False from e).elim
theorem aBN (ha:PE X a ta) (he:∀ whole,isTrue a X.env whole=(do let v<-whole; standAt a.pos; holding [v] (truthy v))) :
  PT X a (fun σ H Q=>ta σ H fun x H'=>∃ k,aFg X.K x H' k/\Q k H'):=by
 intro pins s σ H Q I h
 refine isTrue_plain (thn (ha pins s σ H _ I h) fun v s1 hx9=>?_) (he _)
 obtain ⟨x,H1,I1,r1,q1⟩:=hx9
 exact aEr pins s1 σ H1 x v Q I1 r1 q1
theorem gB {x:V} {us:List Value} (r:bG [x] us):∃ u,us = [u]/\bM x u:=by
 cases r with
 | cons r1 r2=>cases r2; exact ⟨_,rfl,r1⟩
theorem kE {x y:V} {us:List Value} (r:bG [x,y] us):∃ u w',us = [u,w']/\bM x u/\bM y w':=by
 cases r with
 | cons r1 r2 =>
  cases r2 with
  | cons r3 r4=>cases r4; exact ⟨_,_,rfl,r1,r3⟩
theorem aAR (hc:X.calm=true):eI X (.builtin "max") (fun xs H Q=>∃ i j,xs = [.int i,.int j]/\Q (.int (if j > i then j else i)) H):=by
 intro pins s σ H xs us Q I r h
 obtain ⟨i,j,rfl,q⟩:=h
 obtain ⟨u,w',rfl,⟨t,rfl⟩,⟨t',rfl⟩⟩:=kE r
 refine max_two_ints (I.ok.hd hc) fun h' tk k=>⟨_,H,I.kept k,?_,q⟩
 by_cases hj:j > i
 ·rw [if_pos hj,if_pos hj]; exact ⟨_,rfl⟩
 ·rw [if_neg hj,if_neg hj]; exact ⟨_,rfl⟩
theorem aAS (hc:X.calm=true):eI X (.builtin "min") (fun xs H Q=>∃ i j,xs = [.int i,.int j]/\Q (.int (if j < i then j else i)) H):=by
 intro pins s σ H xs us Q I r h
 obtain ⟨i,j,rfl,q⟩:=h
 obtain ⟨u,w',rfl,⟨t,rfl⟩,⟨t',rfl⟩⟩:=kE r
 refine min_two_ints (I.ok.hd hc) fun h' tk k=>⟨_,H,I.kept k,?_,q⟩
 by_cases hj:j < i
 ·rw [if_pos hj,if_pos hj]; exact ⟨_,rfl⟩
 ·rw [if_neg hj,if_neg hj]; exact ⟨_,rfl⟩
end
structure ObjM (h:Heap) (x dx C:Addr) (mA:Str->Option Value):Prop where
 obj:h.get? x=some (PySem.W.instObj C dx)
 ns:h.Ns1 dx mA
 ne:dx≠x
section
variable {prog:Program} {w:World} {A:Around} {E:Value->Shared->Prop} {s:Shared} {K:PySem.W.Frag} {x dx C f:Addr} {mA:Str->Option Value} {name:Str} {v:Value}
end
theorem oU.some_of {v:V} {o:Option Value} (r:oU (some v) o):∃ u,o=some u/\bM v u:=by
 cases o with
 | none=>exact (show False from r).elim
 | some u=>exact ⟨u,rfl,r⟩
section
variable {P:Program} {w:World} {H H':Hp} {h h':Heap} {a C dx:Addr} {fs fs':List (Str×V)}
end
structure Cls (K:PySem.W.Frag) (C:Addr):Prop where
 pg:PySem.W.plainGet K C Str.empty=true
 hd:PySem.W.hasDictIn K C=true
 po:PySem.W.plainOver K C=true
 sa:PySem.W.findIn K (.ref C) "__setattr__" = some (some (.builtin "object.__setattr__"))
theorem Cls.get {K:PySem.W.Frag} {C:Addr} (c:Cls K C) (f:Str):PySem.W.plainGet K C f=true:=c.pg
def aBO (K:PySem.W.Frag) (C:Addr) (f:Str):Prop:=PySem.W.findIn K (.ref C) f=some none
structure Con (K:PySem.W.Frag) (C:Addr) (f:Str) (v:V) (u:Value):Prop where
 at_:PySem.W.findIn K (.ref C) f=some (some u)
 rel:bM v u
 get:PySem.W.specialIn K u "__get__" = some none
 cp:PySem.W.copiedNames.contains f=false
structure Meth (K:PySem.W.Frag) (C:Addr) (m:Str) (f:Addr):Prop where
 at_:PySem.W.findIn K (.ref C) m=some (some (.ref f))
 fn:PySem.W.isFn K (.ref f)=true
 kp:PySem.W.keepIn K (.ref f)=true
section
variable {X:Cx} {pins:List (Addr×Obj)} {σ:St} {H:Hp} {s:Shared} {a C dx:Addr} {fs:List (Str×V)} {f:Str} {v:V} {A:Around} {E:Value->Shared->Prop}
end
section
variable {X:Cx} {o e value:Expr} {f:Str} {pos pos' tpos:Pos} {ta tv:TE}
end
section
variable {X:Cx} {pins:List (Addr×Obj)} {σ:St} {H:Hp} {s:Shared} {A:Around} {E:Value->Shared->Prop} {Q:Value->Shared->Prop} {c:Value} {b:Bool}
inductive TyOf (K:PySem.W.Frag) (H:Hp):V->Value->Prop where
 | non:TyOf K H .non (.type "NoneType")
 | bl (x:Bool):TyOf K H (.bl x) (.type "bool")
 | int (i:Int):TyOf K H (.int i) (.type "int")
 | str (x:Str):TyOf K H (.str x) (.type "str")
 | flt (x:UInt64):TyOf K H (.flt x) (.type "float")
 | lst {a:Addr} {xs:List V} (e:H a=some (.lst xs)):TyOf K H (.ref a) (.type "list")
 | frz {a:Addr} {o:Obj} {xs:List V} (e:H a=some (.frz o (.lst xs))):TyOf K H (.ref a) (.type "list")
 | tup {a:Addr} {xs:List V} (e:H a=some (.tup xs)):TyOf K H (.ref a) (.type "tuple")
 | dK {a:Addr} {kvs:List (Key×V)} (e:H a=some (.dK kvs)):TyOf K H (.ref a) (.type "dict")
 | dT {a:Addr} {kvs:List (List Key×V)} (e:H a=some (.dT kvs)):TyOf K H (.ref a) (.type "dict")
 | ins {a C dx:Addr} {fs:List (Str×V)} (e:H a=some (.ins C dx fs)) (cl:Cls K C) (ha:PySem.W.findIn K (.ref C) "__class__" = some (some (.builtin "object.__class__")))
   (hn:PySem.W.specialIn K (.builtin "object.__class__") "__get__" = some (some (.builtin "getset_descriptor.__get__"))) (htk:PySem.W.takesIn K (.builtin "object.__class__")=some true)
   (hm:PySem.W.mroIn K C (.type "object")=some true):TyOf K H (.ref a) (.ref C)
end
structure Room (k:Nat) (A:Around):Prop where
 hd:A.handled=none
 dp:A.depth+3*k+5 < recursionLimit
 un:A.units+16*k+200 < cLine
 gd:A.guards=some []
theorem Room.mono {j k:Nat} {A:Around} (r:Room k A) (h:j<=k):Room j A:=⟨r.hd,by have:=r.dp; omega,by have:=r.un; omega,r.gd⟩
theorem Room.deeper {k:Nat} {A:Around} (r:Room (k+1) A) (env:Env):Room k (A.deeper env) :=
 ⟨r.hd,by have:=r.dp; show A.depth+1+3*k+5 < _; omega,by have:=r.un; show A.units+3+16*k+200 < _; omega,r.gd⟩
theorem Room.in1 {k:Nat} {A:Around} (r:Room (k+1) A):Room k A.in1 :=
 ⟨r.hd,by have:=r.dp; show A.depth+3*k+5 < _; omega,by have:=r.un; show A.units+1+16*k+200 < _; omega,r.gd⟩
theorem Room.depth {k:Nat} {A:Around} (r:Room k A):A.depth < recursionLimit:=by have:=r.dp; omega
theorem Room.units {k:Nat} {A:Around} (r:Room k A):A.units+64 < cLine:=by have:=r.un; omega
abbrev aBP:TA:=fun _ H Q=>Q [] H
abbrev vR (ta:TE) (tr:TA):TA:=fun σ H Q=>ta σ H fun x H1=>tr σ H1 fun xs H2=>Q (x::xs) H2
section
variable {X:Cx} {e:Expr} {es:List Expr} {te:TE} {t:TA} {pos:Pos}
theorem aB:PA X [] aBP:=fun _ _ _ _ H Q I h=>Calls.spliced_nil ⟨[],H,I,.nil,h⟩
theorem aA (ha:PE X e te) (hr:PA X es t) (hs:starEach (e::es) X.env=(false,eval e X.env)::starEach es X.env:=by rfl):PA X (e::es) (vR te t):=by
 intro pos pins s σ H Q I h
 rw [hs]
 show wpAny _ _ (spliced ((false,eval e X.env)::backTo pos (starEach es X.env))) _ _ s
 refine Calls.spliced_cons (thn (ha pins s σ H _ I h) fun u s1 hx9=>?_)
 obtain ⟨x,H1,I1,r1,q1⟩:=hx9
 refine thn (hr pos pins s1 σ H1 _ I1 q1) fun us s2 hx9=>?_
 obtain ⟨xs,H2,I2,r2,q2⟩:=hx9
 exact ⟨x::xs,H2,I2,.cons r1 r2,q2⟩
def aFT (t:TA):TE:=fun σ H Q=>t σ H fun xs H1=>xs.length<=sizeLine/\∀ p,H1 p=none->Q (.ref p) (upd H1 p (.tup xs))
def aFU (t:TA):TE:=fun σ H Q=>t σ H fun xs H1=>xs.length<=sizeLine/\∀ p,H1 p=none->Q (.ref p) (upd H1 p (.lst xs))
theorem gN {x1} (h:PA X es t):PE X (.Tuple es x1 pos) (aFT t):=by
 intro pins s σ H Q I hq
 refine wpAny_Tuple_spliced (thn (h pos pins s σ H _ I hq) fun us s1 ⟨xs,H1,I1,r,z,q⟩=>⟨by rw [<- r.length]; exact z,?_⟩)
 have hf:H1 s1.heap.objs.size=none:=I1.hok.fresh (Qh _)
 refine ⟨.ref s1.heap.objs.size,upd H1 s1.heap.objs.size (.tup xs),I1.laid (t':=s1.toks) (fun b u e=>Qa _ e) (Qh _) ?_,rfl,q _ hf⟩
 exact ⟨z,us,0,r,Qi _ rfl⟩
theorem eM (h:PA X es t):PE X (.List es pos) (aFU t):=by
 intro pins s σ H Q I hq
 refine wpAny_List_spliced (thn (h pos pins s σ H _ I hq) fun us s1 ⟨xs,H1,I1,r,z,q⟩=>⟨by rw [<- r.length]; exact z,?_⟩)
 have hf:H1 s1.heap.objs.size=none:=I1.hok.fresh (Qh _)
 refine ⟨.ref s1.heap.objs.size,upd H1 s1.heap.objs.size (.lst xs),I1.laid (t':=s1.toks) (fun b u e=>Qa _ e) (Qh _) ?_,rfl,q _ hf⟩
 exact ⟨z,us,0,r,Qi _ rfl⟩
end
abbrev Sp:=List V->Hp->VK->XK->Prop
abbrev CXT:=List Env->Hp->Shared->XK->Value->Shared->Prop
structure Env0 (P:Program) (w:World) (K:PySem.W.Frag) (mg:Str->Option Value) (base:Heap) (A:Around) (outer:List Env) (s:Shared) (H:Hp):Prop where
 frames:A.frames=some outer
 mod:Mod K mg base
 bs:∀ b o,base.get? b=some o->s.heap.get? b=some o/\H b=none
 bsz:base.objs.size<=s.heap.objs.size
 funs:s.heap.FunFrames base outer
 frf:∀ b∈frs outer,H b=none
 hok:HOk P w H s.heap
 bare:AllBare s.gens
def CE (outer:List Env) (P:Program) (w:World) (H:Hp) (s:Shared) (Q:VK) (u:Value) (s':Shared):Prop :=
 ∃ v H',s'.os=s.os/\AllBare s'.gens/\Un (frs outer) [] H H' s.heap s'.heap/\HOk P w H' s'.heap/\bM v u/\Q v H'
def CR (CX:CXT) (outer:List Env) (P:Program) (w:World) (H:Hp) (s:Shared) (Q:VK) (E:XK) (r:Result) (s':Shared):Prop :=
 match r with
 | .ok (.ret u)=>CE outer P w H s Q u s'
 | .ok _=>False
 | .error e=>CX outer H s E e s'
structure FnOk (P:Program) (w:World) (K:PySem.W.Frag) (mg:Str->Option Value) (base:Heap) (CX:CXT) (k:Nat) (f:Addr) (fd:FuncData) (ps:List Str) (sp:Sp):Prop where
 len:∀ vs H Q E,sp vs H Q E->vs.length=ps.length
 run:∀ (A:Around) (outer:List Env) (s:Shared) (H:Hp) (args:Args) (us:List Value) (vs:List V) (Q:VK) (E:XK),Room k A->Env0 P w K mg base A outer s H->BindsTo s fd args (ps.zip us)->bG vs us->sp vs H Q E ->
  codeAny (model P w) A (.call (.ref f) args) (CR CX outer P w H s Q E) s
theorem FnOk.mono {P:Program} {w:World} {K:PySem.W.Frag} {mg:Str->Option Value} {base:Heap} {CX:CXT} {j k:Nat} {f:Addr} {fd:FuncData} {ps:List Str} {sp:Sp} (F:FnOk P w K mg base CX j f fd ps sp) (h:j<=k) :
  FnOk P w K mg base CX k f fd ps sp:=⟨F.len,fun A outer s H args us vs Q E hr=>F.run A outer s H args us vs Q E (hr.mono h)⟩
section
variable {X:Cx} {pins:List (Addr×Obj)} {σ:St} {H:Hp} {s s':Shared}
theorem Inv.env0 (I:Inv X pins σ H s):Env0 X.prog X.w X.K X.mg X.base X.A X.stack s H :=
 ⟨I.ok.frames,I.ok.mod,I.bs,Qz I.ok.bsz I.sz,I.stack,I.stkFree,I.hok,I.bare⟩
theorem Inv.after {Q:VK} {u:Value} (I:Inv X pins σ H s) (h:CE X.stack X.prog X.w H s Q u s'):EP X pins σ Q u s':=by
 obtain ⟨v,H',os,bare,un,hok,r,q⟩:=h
 obtain ⟨hh,g,d,t,os'⟩:=s'
 obtain rfl:os'=s.os:=os
 exact ⟨v,H',I.call (h':=hh) (g':=g) (d':=d) (t':=t) (ch:=[]) un hok bare (fun b z=>absurd z (by simp)),r,q⟩
end
def aD6 (sp:Sp) (dvs:List V) (E:XK) (t:TA):TE:=fun σ H Q=>t σ H fun vs H1=>sp (vs++dvs) H1 Q E
def sV (K:PySem.W.Frag) (fd:FuncData) (ps:List Str) (ds:List Value):Prop :=
 ∀ (s:Shared) (us:List Value),K.In s.heap->(us++ds).length=ps.length->BindsTo s fd ⟨us,[]⟩ (ps.zip (us++ds))
theorem sV.all {K:PySem.W.Frag} {fd:FuncData} {ps:List Str} (h:∀ us:List Value,us.length=ps.length->bindArgs fd ⟨us,[]⟩=pure (ps.zip us)):sV K fd ps []:=fun s us _ hl=>by
 rw [Zr] at hl ⊢
 exact .of_eq (h us hl)
def yA (CX:CXT) (X:Cx) (E:XK):Prop:=∀ (pins:List (Addr×Obj)) (σ:St) (H:Hp) (s:Shared) (e:Value) (s':Shared),Inv X pins σ H s->CX X.stack H s E e s'->X.xe e s'
section
variable {X:Cx} {CX:CXT} {k:Nat} {f C:Addr} {fd:FuncData} {ps:List Str} {sp:Sp} {dvs:List V} {ds:List Value} {E:XK} {x m:Str} {p pos apos:Pos} {e o:Expr} {es:List Expr} {ta:TE} {t:TA}
theorem aEs {pins:List (Addr×Obj)} {σ:St} {H:Hp} {s:Shared} {Q:VK} {us:List Value} {vs:List V} (F:FnOk X.prog X.w X.K X.mg X.base CX k f fd ps sp) (hr:Room k X.A) (hb:sV X.K fd ps ds) (hd:bG dvs ds) (hx:yA CX X E)
  (I:Inv X pins σ H s) (r:bG vs us) (h:sp (vs++dvs) H Q E):wpAny (model X.prog X.w) X.A (call (.ref f) us) (EP X pins σ Q) X.xe s:=by
 have r2:bG (vs++dvs) (us++ds):=r.append hd
 have hl:(us++ds).length=ps.length:=by rw [<- r2.length]; exact F.len _ _ _ _ h
 refine wpAny_call (codeAny_mono (F.run X.A X.stack s H ⟨us,[]⟩ (us++ds) (vs++dvs) Q E hr I.env0 (hb s us I.kIn hl) r2 h) fun r s' hq=>?_)
 cases r with
 | error e=>exact hx pins σ H s e s' I hq
 | ok fl =>
  cases fl with
  | ret u=>exact I.after hq
  | next=>exact False.elim hq
  | brk=>exact False.elim hq
  | cont=>exact False.elim hq
theorem aDe (F:FnOk X.prog X.w X.K X.mg X.base CX k f fd ps sp) (hr:Room k X.A) (hg:Gl X x) (hm:X.mg x=some (.ref f)) (hk:PySem.W.keepIn X.K (.ref f)=true) (hb:sV X.K fd ps ds) (hd:bG dvs ds) (hx:yA CX X E)
  (ha:PA X (e::es) t) (hdb:(x==("__debug__" : Str))=false:=by decide) (he:starEach (e::es) X.env=(false,eval e X.env)::starEach es X.env:=by rfl) (hpl:(backTo pos (starEach es X.env)).any (·.1)=false:=by rfl) :
  PE X (.Call (.Name x p) (e::es) [] pos) (aD6 sp dvs E t):=by
 intro pins s σ H Q I h
 refine wpAny_Call_Name_kw (zS I hg hm ?_ hdb)
 refine PySem.W.callWith_K (h₀:=X.base) I.ok.mod.kin hk (thn (ha pos pins s σ H _ I h) fun us s1 ⟨vs,H1,I1,r,q⟩=>⟨I1.kIn,?_⟩) he hpl
 exact aEs F hr hb hd hx I1 r q
structure Mk (K:PySem.W.Frag) (C f:Addr):Prop where
 makes:PySem.W.makesIn K C=true
 init:PySem.W.findIn K (.ref C) "__init__" = some (some (.ref f))
 fn:PySem.W.isFn K (.ref f)=true
 kp:PySem.W.keepIn K (.ref C)=true
end
def PK (X:Cx) (kws:List Keyword) (t:TA):Prop :=
 ∀ (pos:Pos) (pins:List (Addr×Obj)) (s:Shared) (σ:St) (H:Hp) (Q:List V->Hp->Prop),Inv X pins σ H s->t σ H Q->wpAny (model X.prog X.w) X.A (evalAll ((backToKw pos (keywordEach kws X.env)).map (·.2))) (AP X pins σ Q) X.xe s
section
variable {X:Cx} {CX:CXT} {k:Nat} {f C:Addr} {fd:FuncData} {ps ks:List Str} {sp:Sp} {E:XK} {x m:Str} {p pos apos kpos:Pos} {e o:Expr} {es:List Expr} {kws:List Keyword} {te ta:TE} {t tk:TA} {nm:Option Str}
theorem aEt:PK X [] aBP:=fun _ _ _ _ H Q I h=>wpAny_evalAll_nil ⟨[],H,I,.nil,h⟩
theorem aDf (ha:PE X e te) (hr:PK X kws t):PK X (⟨nm,e,kpos⟩::kws) (vR te t):=by
 intro pos pins s σ H Q I h
 show wpAny _ _ (evalAll ((do let v<-eval e X.env; standAt pos; pure v)::(backToKw pos (keywordEach kws X.env)).map (·.2))) _ _ s
 refine wpAny_evalAll_cons (wpAny_bind (thn (ha pins s σ H _ I h) fun u s1 ⟨x,H1,I1,r1,q1⟩=>wpAny_bind (wpAny_standAt (wpAny_pure ?_))))
 refine thn (hr pos pins s1 σ H1 _ I1 q1) fun us s2 hx9=>?_
 obtain ⟨xs,H2,I2,r2,q2⟩:=hx9
 exact ⟨x::xs,H2,I2,.cons r1 r2,q2⟩
structure KBinds (K:PySem.W.Frag) (fd:FuncData) (ps ks:List Str) (g:List Value->List Value->List Value) (gV:List V->List V->List V):Prop where
 to:∀ (s:Shared) (us ws:List Value),K.In s.heap->(g us ws).length=ps.length->BindsTo s fd ⟨us,ks.zip ws⟩ (ps.zip (g us ws))
 rel:∀ {vs:List V} {us:List Value} {zs:List V} {ws:List Value},bG vs us->bG zs ws->bG (gV vs zs) (g us ws)
variable {g:List Value->List Value->List Value} {gV:List V->List V->List V}
end
structure FnScope (N P:List Str) (sc:Scope):Prop where
 kind:sc.kind=.function
 co:sc.isCoroutine=false
 gen:sc.isGenerator=false
 nd:N.Nodup
 pre:N.take P.length=P
 par:∀ x∈P,sc.names.lookup x=some .local∨sc.names.lookup x=some .cell
 nofree:∀ y∈sc.names,y.2≠.free
theorem sW {kindOf:Str->Option NameKind} {x:Str}:∀ {binds:List (Str×Value)} {m:Str->Option Value},(∀ v,(x,v)∉binds)->bindL kindOf binds m x=m x
 | [],_,_=>rfl
 | (n,v)::r,m,h=>by
  unfold bindL
  rw [sW fun w hw=>h w (Qr _ hw)]
  split
  ·have:x≠n:=by rintro rfl; exact h v Qq
   simp [this]
  ·rfl
theorem sX {kindOf:Str->Option NameKind} {x:Str}:∀ {binds:List (Str×Value)} {m:Str->Option Value},(∀ v,(x,v)∉binds)->bindC kindOf binds m x=m x
 | [],_,_=>rfl
 | (n,v)::r,m,h=>by
  unfold bindC
  rw [sX fun w hw=>h w (Qr _ hw)]
  split
  ·rfl
  ·have:x≠n:=by rintro rfl; exact h v Qq
   simp [this]
theorem sY {kindOf:Str->Option NameKind} {x:Str} {v:Value}:∀ {P:List Str} {vs:List Value} {i:Nat} {m:Str->Option Value},P.Nodup->P[i]?=some x->vs[i]?=some v->kindOf x=some .local ->
  bindL kindOf (P.zip vs) m x=some v
 | [],_,_,_,_,h,_,_=>by simp at h
 | _::_,[],_,_,_,_,h,_=>by simp at h
 | p::P,w::vs,0,m,nd,h1,h2,hk=>by
  simp at h1 h2; subst h1; subst h2
  show bindL kindOf ((p,w)::P.zip vs) m p=_
  unfold bindL
  rw [sW fun v hv=>(Xq.mp nd).1 (Yf hv).1,if_pos hk]
  simp
 | p::P,w::vs,i+1,m,nd,h1,h2,hk=>by
  show bindL kindOf ((p,w)::P.zip vs) m x=_
  unfold bindL
  exact sY (i:=i) (Xq.mp nd).2 (by simpa using h1) (by simpa using h2) hk
theorem sZ {kindOf:Str->Option NameKind} {x:Str} {v:Value}:∀ {P:List Str} {vs:List Value} {i:Nat} {m:Str->Option Value},P.Nodup->P[i]?=some x->vs[i]?=some v->kindOf x≠some .local ->
  bindC kindOf (P.zip vs) m x=some v
 | [],_,_,_,_,h,_,_=>by simp at h
 | _::_,[],_,_,_,_,h,_=>by simp at h
 | p::P,w::vs,0,m,nd,h1,h2,hk=>by
  simp at h1 h2; subst h1; subst h2
  show bindC kindOf ((p,w)::P.zip vs) m p=_
  unfold bindC
  rw [sX fun v hv=>(Xq.mp nd).1 (Yf hv).1,if_neg hk]
  simp
 | p::P,w::vs,i+1,m,nd,h1,h2,hk=>by
  show bindC kindOf ((p,w)::P.zip vs) m x=_
  unfold bindC
  exact sZ (i:=i) (Xq.mp nd).2 (by simpa using h1) (by simpa using h2) hk
def start (N:List Str) (vs:List V):St:=vs.map some++List.replicate (N.length - vs.length) none
def yB (CX:CXT) (P:Program) (w:World) (K:PySem.W.Frag) (mg:Str->Option Value) (base:Heap) (N:List Str) (qual:Str) (scope:Scope) (f:Addr) (cd:Value) (A:Around) (outer:List Env) (s:Shared) (H:Hp) (E:XK):Cx where
 prog:=P
 w:=w
 K:=K
 mg:=mg
 base:=base
 A:=A.deeper (envOfC qual scope s.heap.objs.size f cd)
 N:=N
 s₀:=s
 H₀:=H
 env:=envOfC qual scope s.heap.objs.size f cd
 outer:=outer
 stack:=envOfC qual scope s.heap.objs.size f cd::outer
 ex:=[]
 calm:=true
 fn:=fun _=>true
 pn:=[]
 xe:=fun e s'=>wpAny (model P w) (A.deeper (envOfC qual scope s.heap.objs.size f cd)) (leaving (envOfC qual scope s.heap.objs.size f cd) e) (fun _ s''=>CX outer H s E e s'') (fun e' s''=>CX outer H s E e' s'') s'
theorem vS {sc:Scope} {n:Nat} {x:Str} (h:sc.names.lookup x=some .cell):∃ c,(cellsFrom n sc.names []).lookup x=some c:=by
 have q:=PySem.W.cellsFrom_some sc.names n [] (.inl h)
 exact Yv.mp q
theorem aAU {CX:CXT} {P:Program} {w:World} {K:PySem.W.Frag} {mg:Str->Option Value} {base:Heap} {N ps:List Str} {qual:Str} {scope:Scope} {f:Addr} {cd:Value} {A:Around} {outer:List Env} {s s1:Shared} {H:Hp} {E:XK} {us:List Value} {vs:List V}
  (S:FnScope N ps scope) (hd:A.handled=none) (e0:Env0 P w K mg base A outer s H) (hl:vs.length=ps.length) (r:bG vs us)
  (x:InCallC s s.heap.objs.size (bindL (envOfC qual scope s.heap.objs.size f cd).kindOf (ps.zip us) fun _=>none) (cellsFrom (s.heap.objs.size+1) scope.names []) (bindC (envOfC qual scope s.heap.objs.size f cd).kindOf (ps.zip us) fun _=>none) s1) :
  Inv (yB CX P w K mg base N qual scope f cd A outer s H E) [] (start N vs) H s1:=by
 have hpl:ps.length<=N.length:=by have:=congrArg Wj S.pre; rw [Ja] at this; omega
 obtain ⟨h1,tk,rfl,hk⟩:=x.done
 have noA:∀ b:Addr,b∉(yB CX P w K mg base N qual scope f cd A outer s H E).ex:=fun b z=>absurd (show b∈([]:List Addr) from z) (by simp)
 refine ⟨⟨e0.mod,S.kind,rfl,rfl,Qh _,fun y z c h1 h2=>?_,fun y hy=>?_,fun y c _ h=>?_,fun _=>hd,Around.frames_deeper e0.frames,.inr ⟨rfl,rfl⟩,fun b z=>absurd z (noA b),e0.bs,e0.bsz,fun b _ _=>noA b,fun b z=>absurd z (noA b),e0.funs,e0.frf⟩,
  rfl,e0.bare,Un.kept hk,⟨_,x.toInCall.ns,fun i y v h1 h2 h3=>?_⟩,fun y c h=>⟨_,x.cell y c h⟩,e0.hok.fresh (Qh _),fun y c h=>?_,fun p hp=>absurd (show p∈([]:List (Addr×Obj)) from hp) (by simp),e0.hok.kept hk,?_⟩
 ·exact name_of_addr x.apart (PySem.mem_of_lookup h1) (PySem.mem_of_lookup h2)
 ·have hy:scope.names.lookup y=some .cell∨scope.names.lookup y=some .free:=hy
  rcases hy with hy | hy
  ·exact vS hy
  ·exact absurd rfl (S.nofree _ (PySem.mem_of_lookup hy))
 ·exact Zn (x.above y c (PySem.mem_of_lookup h))
 ·have hi:i < vs.length:=by
   unfold start at h2
   by_cases hi:i < vs.length
   ·exact hi
   ·rw [Qw (by simpa using hi)] at h2
    rw [Jp] at h2
    split at h2 <;> cases h2
  have ha:vs[i]?=some v:=by
   unfold start at h2
   rw [Qs (by simpa using hi),Qg] at h2
   cases e:vs[i]? with
   | none=>rw [e] at h2; cases h2
   | some a=>rw [e] at h2; cases h2; rfl
  obtain ⟨u,hu,rv⟩:=r.get ha
  have hp:ps[i]?=some y:=by
   rw [<- S.pre,List.getElem?_take_of_lt (by omega)]; exact h1
  have ndP:ps.Nodup:=by rw [<- S.pre]; exact S.nd.sublist (List.take_sublist _ _)
  refine ⟨u,rv,?_⟩
  rcases S.par y (Qe hp) with k | k
  ·exact .inl ⟨k,sY ndP hp hu k⟩
  ·obtain ⟨c,e⟩:=vS (n:=s.heap.objs.size+1) k
   refine .inr ⟨.inl k,c,e,?_⟩
   have q:=x.cell y c e
   rw [sZ ndP hp hu (by show scope.names.lookup y≠_; rw [k]; decide)] at q
   exact q
 ·exact e0.hok.fresh (Zn (x.above y c (PySem.mem_of_lookup h)))
 ·unfold start
  show _=N.length
  rw [Qk,Qb,Ji]
  omega
theorem aD7 {CX:CXT} {P:Program} {w:World} {K:PySem.W.Frag} {mg:Str->Option Value} {base:Heap} {k:Nat} {f:Addr} {name qual:Str} {params:Arguments} {body:List Stmt} {scope:Scope} {dV kV doc pm cdv ct oc:Value} {an od:Option Addr}
  {osl:Array (Option Value)} {N ps:List Str} {sp:Sp} (lk:K.lookup f=some ⟨oc,od,.func (PySem.W.fnOf name qual params body scope dV kV doc pm an cdv ct),osl⟩) (hcd:PySem.W.codeIn K cdv qual=true) (S:FnScope N ps scope)
  (len:∀ vs H Q E,sp vs H Q E->vs.length=ps.length)
  (hbody:∀ (A:Around) (outer:List Env) (s:Shared) (H:Hp) (vs:List V) (Q:VK) (E:XK),Room k (A.deeper (envOfC qual scope s.heap.objs.size f cdv))->sp vs H Q E ->
   ∃ t,PSs (yB CX P w K mg base N qual scope f cdv A outer s H E) body t/\t { nx:=fun _ H'=>Q .non H',rt:=Q } (start N vs) H) :
  FnOk P w K mg base CX (k+1) f (PySem.W.fnOf name qual params body scope dV kV doc pm an cdv ct) ps sp:=by
 refine ⟨len,fun A outer s H args us vs Q E hr e0 hb r hsp=>?_⟩
 have hl:=len _ _ _ _ hsp
 have KX:K.In s.heap:=e0.mod.kin.keeps fun b o e=>(e0.bs b o e).1
 have lim:s.heap.NoLimit:=e0.mod.nolimit.keeps fun b o e=>(e0.bs b o e).1
 have hkind:∀ y∈ps.zip us,scope.names.lookup y.1=some .local∨(scope.names.lookup y.1=some .cell/\((cellsFrom (s.heap.objs.size+1) scope.names []).lookup y.1).isSome=true):=fun ⟨n,v⟩ hy=>by
  rcases S.par n (Yf hy).1 with q | q
  ·exact .inl q
  ·exact .inr ⟨q,PySem.W.cellsFrom_some _ _ _ (.inl q)⟩
 refine codeAny_call_function hr.depth (KX _ _ lk) rfl S.co S.gen rfl (PySem.W.codeRec_of KX hcd) (hb _ _ _ _ ?_)
 refine wpAny_newFunctionEnv_cells S.kind hkind fun env he s1 x=>?_
 subst he
 refine ⟨lim.keeps x.toInCall.keep,codeAny_func ?_⟩
 obtain ⟨t,ht,hq⟩:=hbody A outer s H vs Q E (hr.deeper _) hsp
 have I:Inv (yB CX P w K mg base N qual scope f cdv A outer s H E) [] (start N vs) H s1:=aAU S hr.hd e0 hl r x
 refine wpAny_mono (ht [] s1 (start N vs) H _ I hq) (fun fl s' hs=>?_) fun e s' hs=>hs
 have fin:∀ {σ':St} {H':Hp} {v:V} {u:Value},Inv (yB CX P w K mg base N qual scope f cdv A outer s H E) [] σ' H' s'->bM v u->Q v H'->CE outer P w H s Q u s' :=
  fun {σ' H' v u} J rv q=>⟨v,H',J.os,J.bare,J.base,J.hok,rv,q⟩
 cases fl with
 | ret u =>
  obtain ⟨v,σ',H',J,rv,q⟩:=hs
  exact fin J rv q
 | next =>
  obtain ⟨σ',H',J,q⟩:=hs
  exact fin (v:=V.non) (u:=Value.none) J rfl q
 | brk =>
  obtain ⟨_,_,_,q⟩:=hs
  exact False.elim q
 | cont =>
  obtain ⟨_,_,_,q⟩:=hs
  exact False.elim q
section
variable {X:Cx} {x:Str} {p pos:Pos} {e:Expr} {es:List Expr} {t:TA} {id T:String} {r:List V->Hp->VK->Prop}
def tCB (r:List V->Hp->VK->Prop) (t:TA):TE:=fun σ H Q=>t σ H fun vs H1=>r vs H1 Q
theorem aK (hc:eI X (.builtin id) r) (hg:Gl X x) (hm:X.mg x=none) (hv:bootBuiltins x=some (.builtin id)) (ha:PA X (e::es) t) (hn:x ≠ "__name__" := by decide) (hdb:(x==("__debug__" : Str))=false:=by decide)
  (he:starEach (e::es) X.env=(false,eval e X.env)::starEach es X.env:=by rfl) (hpl:(backTo pos (starEach es X.env)).any (·.1)=false:=by rfl):PE X (.Call (.Name x p) (e::es) [] pos) (tCB r t):=by
 intro pins s σ H Q I h
 refine wpAny_Call_Name_kw (hJ I hg hm hv ?_ hn hdb)
 refine PyProof.Rows.callWith_builtin1 (thn (ha pos pins s σ H _ I h) fun us s1 hx9=>?_) he hpl
 obtain ⟨vs,H1,I1,r1,q1⟩:=hx9
 exact hc pins s1 σ H1 vs us Q I1 r1 q1
theorem bQ (hc:eI X (.type T) r) (hg:Gl X x) (hm:X.mg x=none) (hv:bootBuiltins x=some (.type T)) (ha:PA X (e::es) t) (hn:x ≠ "__name__" := by decide) (hdb:(x==("__debug__" : Str))=false:=by decide)
  (he:starEach (e::es) X.env=(false,eval e X.env)::starEach es X.env:=by rfl) (hpl:(backTo pos (starEach es X.env)).any (·.1)=false:=by rfl):PE X (.Call (.Name x p) (e::es) [] pos) (tCB r t):=by
 intro pins s σ H Q I h
 refine wpAny_Call_Name_kw (hJ I hg hm hv ?_ hn hdb)
 refine PyProof.Rows.callWith_type1 (thn (ha pos pins s σ H _ I h) fun us s1 hx9=>?_) he hpl
 obtain ⟨vs,H1,I1,r1,q1⟩:=hx9
 exact hc pins s1 σ H1 vs us Q I1 r1 q1
end
end L2
namespace HT
open PySem PyProof.Rows
section
open PySem.SeqAt
open PySem.AutoSeq1 (wpAny_loadPart')
open PySem.MeetsSeq PySem.MeetsSeq2 PySem.MeetsSeq3
end
section
variable {prog:Program} {w:World} {A:Around} {E:Value->Shared->Prop} {s:Shared}
theorem cat_tup {t b:Addr} {vs ws:List Value} {Q:Value->Shared->Prop} (ht:IsTup s.heap t vs.toArray) (hb:IsTup s.heap b ws.toArray) (hv:vs≠[])
  (h1:ws = []->Q (.ref t) s) (h2:ws≠[]->Q (.ref s.heap.objs.size) { s with heap:=s.heap.push { cls:=.type "tuple",data:=.seq (vs++ws).toArray } })
  (hsz:vs.length+ws.length<=sizeLine):wpAny (model prog w) A (binaryOp .Add (.ref t) (.ref b)) Q E s:=by
 obtain ⟨⟨cls,dd,data,sl⟩,ho,hc,n,hd⟩:=id ht
 obtain ⟨⟨cls2,dd2,data2,sl2⟩,ho2,hc2,n2,hd2⟩:=id hb
 simp only at hc hd hc2 hd2
 subst hc hd hc2 hd2
 have e:vs.toArray++ws.toArray=(vs++ws).toArray:=by simp
 by_cases hw:ws = []
 ·exact concat_meets ⟨_,ho,rfl⟩ ⟨_,ho2,rfl⟩ noFill_tuple_add seq_tuple_add PySem.F.slot_tuple_add PySem.F.entry_tuple_add (PySem.F.args_tuple_add_2 _ _)
   (tuple_addW1 t b vs.toArray ws.toArray n n2 dd dd2 sl sl2 (by simpa using hv) (by simp [hw])) ⟨ho,ho2,h1 hw⟩
 ·refine concat_meets ⟨_,ho,rfl⟩ ⟨_,ho2,rfl⟩ noFill_tuple_add seq_tuple_add PySem.F.slot_tuple_add PySem.F.entry_tuple_add (PySem.F.args_tuple_add_2 _ _)
   (tuple_addW2 t b vs.toArray ws.toArray n n2 dd dd2 sl sl2 (by simpa using hv) (by simpa using hw) (by rw [Qj,Qj]; exact hsz)) ⟨ho,ho2,?_⟩
  rw [e]
  exact h2 hw
def sIx (n d:Nat):Option Int->Nat
 | none=>d
 | some v=>if v < 0 then (v+(n:Int)).toNat else min v.toNat n
theorem sIx_none (n d:Nat):sIx n d none=d:=rfl
theorem sIx_nat (n d k:Nat):sIx n d (some (k:Int))=min k n:=by
 show (if (k:Int) < 0 then ((k:Int)+(n:Int)).toNat else min (k:Int).toNat n)=min k n
 rw [if_neg (by omega),Jw]
theorem aEu (n d:Nat) (hd:d<=n) (o:Option Int):sIx n d o<=n:=by
 cases o with
 | none=>exact hd
 | some v =>
  show (if v < 0 then (v+(n:Int)).toNat else min v.toNat n)<=n
  by_cases hv:v < 0
  ·rw [if_pos hv]; omega
  ·rw [if_neg hv]; exact Nat.min_le_right _ _
theorem zZ (v:Int) (n d:Nat):(if v < 0 then max (v+(n:Int)) 0 else min v (n:Int))=((sIx n d (some v):Nat):Int):=by
 show (if v < 0 then max (v+(n:Int)) 0 else min v (n:Int))=(((if v < 0 then (v+(n:Int)).toNat else min v.toNat n):Nat):Int)
 by_cases hv:v < 0
 ·simp only [if_pos hv]; omega
 ·simp only [if_neg hv]; omega
theorem yC (lo hi:Option Int) (n:Nat):Builtin.Slice.sliceAdjust lo hi 1 (n:Int)=(((sIx n 0 lo:Nat):Int),((sIx n n hi:Nat):Int)):=by
 have h1:¬ ((1:Int) < 0):=by omega
 unfold Builtin.Slice.sliceAdjust
 simp only [h1,if_false]
 refine Prod.ext ?_ ?_
 ·cases lo with
  | none=>rfl
  | some v=>exact zZ v n 0
 ·cases hi with
  | none=>rfl
  | some v=>exact zZ v n n
theorem yD (i j:Nat):Builtin.Slice.slicePlaces (i:Int) (j:Int) 1=j - i:=by
 unfold Builtin.Slice.slicePlaces
 have h1:(1:Int) > 0:=by omega
 simp only [h1,if_true,Wt]
 split <;> omega
theorem slicePart_ {v:Value} {o:Option Int} {Q:Option Int->Shared->Prop} (p:IsPart v o) (h:Q o s):wpAny (model prog w) A (Builtin.Slice.slicePartIndex v) Q E s:=by
 cases p with
 | none=>exact slicePart_none h
 | int i t=>exact slicePart_int h
theorem sliceApplied_gen {sl:Addr} {vl vu:Value} {lo hi:Option Int} {n:Nat} {Q:Int×Int×Nat->Shared->Prop} (hs:s.heap.IsSliceOf sl vl vu .none) (pl:IsPart vl lo) (pu:IsPart vu hi)
  (h:Q (((sIx n 0 lo:Nat):Int),1,sIx n n hi - sIx n 0 lo) s):wpAny (model prog w) A (Builtin.Slice.sliceApplied (.ref sl) (pure (n:Int))) Q E s:=by
 obtain ⟨os,hos,hcs,hds⟩:=id hs
 unfold Builtin.Slice.sliceApplied Builtin.Slice.sliceFields
 refine wpAny_bind (wpAny_bind (wpAny_field hos hds (x:=vl) rfl (wpAny_bind (wpAny_field hos hds (x:=vu) rfl (wpAny_bind (wpAny_field hos hds (x:=.none) rfl (wpAny_pure ?_)))))))
 refine wpAny_bind (slicePart_none ?_)
 show wpAny _ _ (if ((1:Int)==0)=true then _ else _) _ _ s
 rw [if_neg (by decide)]
 refine wpAny_bind (slicePart_ pl (wpAny_bind (slicePart_ pu (wpAny_bind (wpAny_pure ?_)))))
 show wpAny _ _ (match Builtin.Slice.sliceAdjust lo hi 1 (n:Int) with | (lo,hi)=>pure (lo,(1:Int),Builtin.Slice.slicePlaces lo hi 1)) _ _ s
 rw [yC lo hi n]
 show wpAny _ _ (pure (((sIx n 0 lo:Nat):Int),(1:Int),Builtin.Slice.slicePlaces ((sIx n 0 lo:Nat):Int) ((sIx n n hi:Nat):Int) 1)) _ _ s
 rw [yD]
 exact wpAny_pure h
theorem pick_gen (xs:Array Value) (i k:Nat):((List.range k).filterMap fun (m:Nat)=>xs[((i:Int)+(m:Int)*1).toNat]?).toArray=((xs.toList.drop i).take k).toArray:=by
 have e:(fun (m:Nat)=>xs[((i:Int)+(m:Int)*1).toNat]?)=fun m=>xs[i+m]?:=by
  funext m
  have:((i:Int)+(m:Int)*1).toNat=i+m:=by omega
  rw [this]
 rw [e]
 have:=pick_run xs i k
 rw [Wp] at this
 have e2:((fun x=>xs[x]?) ∘ fun x=>i+x)=fun m=>xs[i+m]?:=rfl
 rw [e2] at this
 rw [this]
theorem getItem_tuple_cut {t sl:Addr} {items:Array Value} {vl vu:Value} {lo hi:Option Int} {Q:Value->Shared->Prop} (ht:IsTup s.heap t items) (hs:s.heap.IsSliceOf sl vl vu .none) (pl:IsPart vl lo) (pu:IsPart vu hi)
  (hw:¬ (sIx items.size 0 lo=0/\sIx items.size items.size hi=items.size))
  (h:Q (.ref s.heap.objs.size) { s with heap:=s.heap.push { cls:=.type "tuple",data:=.seq ((items.toList.drop (sIx items.size 0 lo)).take (sIx items.size items.size hi - sIx items.size 0 lo)).toArray } })
  (hsz:items.size<=sizeLine):wpAny (model prog w) A (getItem (.ref t) (.ref sl)) Q E s:=by
 have htake:sizeOk (.seq ((items.toList.drop (sIx items.size 0 lo)).take (sIx items.size items.size hi - sIx items.size 0 lo)).toArray):=by
  show ((items.toList.drop (sIx items.size 0 lo)).take (sIx items.size items.size hi - sIx items.size 0 lo)).toArray.size<=sizeLine
  rw [Qj,Ja,Xd,Array.length_toList]
  omega
 have hj:sIx items.size items.size hi<=items.size:=aEu _ _ (Qh _) hi
 obtain ⟨os,hos,hcs,hds⟩:=id hs
 have hTs:s.TypeIs (.ref sl) "slice" := ⟨os,hos,hcs⟩
 unfold getItem
 try with_reducible refine wpAny_holding ?_
 first | refine wpAny_bind (wpAny_pure ?_) | skip
 refine wpAny_bind (wpAny_sequenceKey ht.typeIs (by decide) ?_)
 refine wpAny_bind (wpAny_callSpecial?_slot (name:=Str.ofString "__getitem__") ht.typeIs PyProof.Rows.slot_tuple_getitem
  (wpAny_call_entry PyProof.Rows.slot_tuple_getitem ht.typeIs entry_tuple_getitem ?_ (args_tuple_getitem _ _)))
 show wpAny _ _ (Builtin.Tuple.tupleItemsOf (.ref t) >>= _) _ _ s
 refine wpAny_bind (tupleItemsOf_ ht ?_)
 refine wpAny_bind (wpAny_typeOf hTs ?_)
 rw [if_pos (by decide)]
 refine wpAny_bind (sliceApplied_gen hs pl pu ?_)
 have hno:¬ ((((sIx items.size 0 lo:Nat):Int)==0 && (1:Int)==1 && (sIx items.size items.size hi - sIx items.size 0 lo)==items.size)=true):=by
  intro q
  rw [Jc,Jc] at q
  have q1:((sIx items.size 0 lo:Nat):Int)=0:=eq_of_beq q.1.1
  have q2:sIx items.size items.size hi - sIx items.size 0 lo=items.size:=eq_of_beq q.2
  exact hw ⟨by omega,by omega⟩
 show wpAny _ _ (if (((sIx items.size 0 lo:Nat):Int)==0 && (1:Int)==1 && (sIx items.size items.size hi - sIx items.size 0 lo)==items.size)=true then _ else _) _ _ s
 rw [if_neg hno,pick_gen]
 first
  | exact wpAny_bind (m:=Builtin.Tuple.tupleExact _) (wpAny_newObj_type (wpAny_pure ⟨_,rfl,wpAny_pure h⟩) htake)
  | exact wpAny_bind (m:=Builtin.Tuple.tupleExact _) (wpAny_newObj_type (wpAny_bind (wpAny_pure (wpAny_pure ⟨_,rfl,wpAny_pure h⟩))) htake)
  | exact wpAny_bind (wpAny_bind (m:=Builtin.Tuple.tupleExact _) (wpAny_newObj_type (wpAny_pure (wpAny_pure ⟨_,rfl,wpAny_pure h⟩)) htake))
  | exact wpAny_bind (wpAny_bind (m:=Builtin.Tuple.tupleExact _) (wpAny_newObj_type (wpAny_pure ⟨_,rfl,wpAny_pure h⟩) htake))
end
end HT
namespace L2
open PySem PySem.Spec PyProof.Rows
abbrev TO:=St->Hp->(Option Int->Hp->Prop)->Prop
def PO (X:Cx) (e:Option Expr) (t:TO):Prop :=
 ∀ (pins:List (Addr×Obj)) (s:Shared) (σ:St) (H:Hp) (Q:Option Int->Hp->Prop),Inv X pins σ H s->t σ H Q ->
  wpAny (model X.prog X.w) X.A (evalPart e X.env) (fun u s'=>∃ o H',Inv X pins σ H' s'/\IsPart u o/\Q o H') X.xe s
def aDg:TO:=fun _ H Q=>Q none H
def aFh (t:TE):TO:=fun σ H Q=>t σ H fun x H1=>∃ i,x=.int i/\Q (some i) H1
theorem eY {ns:List Int}:∀ {us:List Value},bG (ns.map V.int) us->IntsAre us ns:=by
 induction ns with
 | nil=>intro us r; rw [Wu] at r; cases r; exact .nil
 | cons n ns ih =>
  intro us r
  rw [Jj] at r
  cases r with
  | cons r1 r2 =>
   obtain ⟨t,e⟩:=r1
   subst e
   exact .cons n t (ih r2)
section
variable {X:Cx} {e:Expr} {te:TE} {lo hi:Option Expr} {tl th:TO} {pos p2:Pos}
theorem mD:PO X none aDg:=by
 intro pins s σ H Q I h
 rw [evalPart_none]
 exact wpAny_pure ⟨none,H,I,.none,h⟩
theorem mE (h:PE X e te):PO X (some e) (aFh te):=by
 intro pins s σ H Q I hw
 rw [evalPart_some]
 refine thn (h pins s σ H _ I hw) fun u s1 hx9=>?_
 obtain ⟨x,H1,I1,r1,q1⟩:=hx9
 obtain ⟨i,rfl,q⟩:=q1
 obtain ⟨t,rfl⟩:=r1
 exact ⟨some i,H1,I1,.int i t,q⟩
def SlR (X:Cx) (r:V->Option Int->Option Int->Hp->VK->Prop):Prop :=
 ∀ (pins:List (Addr×Obj)) (s:Shared) (σ:St) (H:Hp) (x:V) (v vl vu:Value) (lo hi:Option Int) (sl:Addr) (Q:VK),Inv X pins σ H s->bM x v->s.heap.IsSliceOf sl vl vu .none->IsPart vl lo->IsPart vu hi->r x lo hi H Q ->
  ∃ T id,typeLookup (.type T) "__getitem__" = pure (some (.builtin id))/\s.TypeIs v T/\wpAny (model X.prog X.w) X.A (getItem v (.ref sl)) (EP X pins σ Q) X.xe s
def tSl (r:V->Option Int->Option Int->Hp->VK->Prop) (te:TE) (tl th:TO):TE:=fun σ H Q=>te σ H fun x H1=>tl σ H1 fun l H2=>th σ H2 fun u H3=>r x l u H3 Q
theorem kF {r:V->Option Int->Option Int->Hp->VK->Prop} (hr:SlR X r) (he:PE X e te) (hl:PO X lo tl) (hu:PO X hi th):PE X (.Subscript e (.Slice lo hi none p2) pos) (tSl r te tl th):=by
 intro pins s σ H Q I h
 refine Subscript_ (thn (he pins s σ H _ I h) fun v s1 hx9=>?_)
 obtain ⟨x,H1,I1,r1,q1⟩:=hx9
 refine wpAny_Slice (thn (hl pins s1 σ H1 _ I1 q1) fun vl s2 ⟨l,H2,I2,pl,q2⟩=>thn (hu pins s2 σ H2 _ I2 q2) fun vu s3 hx9=>?_)
 obtain ⟨u,H3,I3,pu,q3⟩:=hx9
 rw [evalPart_none]
 refine wpAny_pure ?_
 have I4:Inv X pins σ H3 { s3 with heap:=s3.heap.push { cls:=.type "slice",data:=.fields #[vl,vu,.none] } }:=I3.kept (t':=s3.toks) fun b ob q=>Qa _ q
 obtain ⟨T,id,hT,ht,hg⟩:=hr pins { s3 with heap:=s3.heap.push { cls:=.type "slice",data:=.fields #[vl,vu,.none] } } σ H3 x v vl vu l u s3.heap.objs.size Q I4 r1 (Heap.IsSliceOf.new ..) pl pu q3
 show wpAny (model X.prog X.w) X.A (subscriptTail e (.Slice lo hi none p2) v (.ref s3.heap.objs.size)) (EP X pins σ Q) X.xe { s3 with heap:=s3.heap.push { cls:=.type "slice",data:=.fields #[vl,vu,.none] } }
 exact tail_any (ops:=[.ref s3.heap.objs.size,v]) ht hT hg (by with_unfolding_all rfl)
def kG (xs:List V) (lo hi:Option Int):List V:=(xs.drop (HT.sIx xs.length 0 lo)).take (HT.sIx xs.length xs.length hi - HT.sIx xs.length 0 lo)
theorem oJ (xs:List V) (lo hi:Option Int):(kG xs lo hi).length<=xs.length:=by
 unfold kG
 rw [Ja,Xd]
 exact Qz (Nat.min_le_right _ _) (Nat.sub_le _ _)
def aFV (K:PySem.W.Frag):V->Option Int->Option Int->Hp->VK->Prop:=fun x lo hi H Q=>∃ a xs,x=.ref a/\SqT K H a xs /\
 ¬ (HT.sIx xs.length 0 lo=0/\HT.sIx xs.length xs.length hi=xs.length)/\∀ p,H p=none->Q (.ref p) (upd H p (.tup (kG xs lo hi)))
theorem aEv:SlR X (aFV X.K):=by
 intro pins s σ H x v vl vu lo hi sl Q I rx hs pl pu h
 obtain ⟨a,xs,rfl,hx,hw,q⟩:=h
 cases rx
 obtain ⟨its,r,ht,hz⟩:=I.tuple hx
 have hlen:its.toArray.size=xs.length:=by rw [Qj]; exact r.length.symm
 refine ⟨"tuple",_,PyProof.Rows.slot_tuple_getitem.lookup,ht.typeIs,?_⟩
 refine HT.getItem_tuple_cut ht hs pl pu (by rw [hlen]; exact hw) ?_ (by rw [hlen]; exact hz)
 rw [hlen]
 refine ⟨.ref s.heap.objs.size,_,I.laid (t':=s.toks) (o:=.tup (kG xs lo hi)) (fun b ob q=>Qa _ q) (Qh _) ?_,rfl,q _ (I.hok.fresh (Qh _))⟩
 exact ⟨Qz (oJ xs lo hi) hz,_,0,(r.drop (HT.sIx xs.length 0 lo)).take (HT.sIx xs.length xs.length hi - HT.sIx xs.length 0 lo),Qi _ rfl⟩
def aFi (K:PySem.W.Frag):R2:=fun x y H Q=>∃ a b xs ys,x=.ref a/\y=.ref b/\SqT K H a xs/\SqT K H b ys/\xs≠[]/\xs.length+ys.length<=sizeLine /\
 (ys = []->Q (.ref a) H)/\(ys≠[]->∀ p,H p=none->Q (.ref p) (upd H p (.tup (xs++ys))))
theorem bG.nil_iff {xs:List V} {us:List Value} (r:bG xs us):us = []↔xs = []:=by
 cases r with
 | nil=>simp
 | cons _ _=>simp
theorem aDh:OpR X (binaryOp .Add) (aFi X.K):=by
 intro pins s σ H x y v u Q I rx ry h
 obtain ⟨a,b,xs,ys,rfl,rfl,ha,hb,hx,hz,q1,q2⟩:=h
 cases rx
 cases ry
 obtain ⟨its,r1,p1,_⟩:=I.tuple ha
 obtain ⟨its2,r2,p2,_⟩:=I.tuple hb
 refine HT.cat_tup p1 p2 (fun z=>hx (r1.nil_iff.mp z)) (fun z=>⟨.ref a,H,I,rfl,q1 (r2.nil_iff.mp z)⟩) (fun z=>?_) (by rw [<- r1.length,<- r2.length]; exact hz)
 refine ⟨.ref s.heap.objs.size,_,I.laid (t':=s.toks) (o:=.tup (xs++ys)) (fun b ob q=>Qa _ q) (Qh _) ?_,rfl,q2 (fun w=>z (r2.nil_iff.mpr w)) _ (I.hok.fresh (Qh _))⟩
 exact ⟨by rw [Qk]; exact hz,_,0,r1.append r2,Qi _ rfl⟩
end
def ixN (n:Nat) (i:Int):Option Nat:=if 0<=i then (if i < n then some i.toNat else none) else if -(n:Int)<=i then some (i+n).toNat else none
def atI {α:Type} (xs:List α) (i:Int):Option α:=(ixN xs.length i).bind fun j=>xs[j]?
theorem aAa {n:Nat} {i:Int} {j:Nat} (h:ixN n i=some j):seqIndex? i n=some j/\j < n/\-(n:Int)<=i/\i < n:=by
 unfold ixN at h
 by_cases h0:0<=i
 ·rw [if_pos h0] at h
  by_cases h1:i < n
  ·rw [if_pos h1] at h
   have e:i.toNat=j:=Option.some.inj h
   exact ⟨by rw [seqIndex_of h0 h1,e],by omega,by omega,h1⟩
  ·rw [if_neg h1] at h; cases h
 ·rw [if_neg h0] at h
  by_cases h1:-(n:Int)<=i
  ·rw [if_pos h1] at h
   have e:(i+n).toNat=j:=Option.some.inj h
   exact ⟨by rw [seqIndex_neg (by omega) h1,e],by omega,h1,by omega⟩
  ·rw [if_neg h1] at h; cases h
theorem aAb {α:Type} {xs:List α} {i:Int} {v:α} (h:atI xs i=some v):∃ j,seqIndex? i xs.length=some j/\xs[j]?=some v/\j < xs.length/\-(xs.length:Int)<=i/\i < xs.length:=by
 unfold atI at h
 cases e:ixN xs.length i with
 | none=>rw [e] at h; cases h
 | some j =>
  rw [e] at h
  obtain ⟨h1,h2,h3,h4⟩:=aAa e
  exact ⟨j,h1,h,h2,h3,h4⟩
theorem cI {α:Type} {xs:List α} {j:Nat} {v:α} (h:xs[j]?=some v):atI xs (j:Int)=some v:=by
 have hj:j < xs.length:=(Qd.mp h).1
 have e:ixN xs.length (j:Int)=some j:=by
  unfold ixN
  rw [if_pos (by omega),if_pos (by omega)]; simp
 unfold atI; rw [e]; exact h
def aDi (b:Expr):Prop:=∀ o i,subscripted b false o i=operate [o,i] (getItem o i)
def IxR (X:Cx) (r:R2):Prop :=
 ∀ (value slice:Expr) (pins:List (Addr×Obj)) (s:Shared) (σ:St) (H:Hp) (x y:V) (v u:Value) (Q:VK),Inv X pins σ H s->bM x v->bM y u->r x y H Q ->
  subscripted slice false v u=operate [v,u] (getItem v u)->wpAny (model X.prog X.w) X.A (subscriptTail value slice v u) (EP X pins σ Q) X.xe s
def MtR (X:Cx) (id:String) (r:V->List V->Hp->VK->Prop):Prop :=
 ∀ (pins:List (Addr×Obj)) (s:Shared) (σ:St) (H:Hp) (x:V) (xs:List V) (v:Value) (us:List Value) (Q:VK),Inv X pins σ H s->bM x v->bG xs us->r x xs H Q ->
  wpAny (model X.prog X.w) X.A (call (.builtin id) (v::us)) (EP X pins σ Q) X.xe s
section
variable {X:Cx} {a b:Expr} {ta tb:TE} {pos:Pos}
theorem aU {r:R2} (hr:IxR X r) (ha:PE X a ta) (hb:PE X b tb) (hs:aDi b):PE X (.Subscript a b pos) (tOp r ta tb):=by
 intro pins s σ H Q I h
 exact Subscript_ (aEp ha hb I h fun v u s2 x y H2 I2 rx ry q=>hr a b pins s2 σ H2 x y v u Q I2 rx ry q (hs _ _))
def aFj (K:PySem.W.Frag):R2:=fun x y H Q=>∃ p xs i v,x=.ref p/\y=.int i/\SqL K H p xs/\atI xs i=some v/\Q v H
def aFk (K:PySem.W.Frag):R2:=fun x y H Q=>∃ p xs i v,x=.ref p/\y=.int i/\SqT K H p xs/\atI xs i=some v/\Q v H
theorem eA:IxR X (aFj X.K):=by
 intro value slice pins s σ H x y v u Q I rx ry h hs
 obtain ⟨p,xs,i,z,rfl,rfl,hq,he,q⟩:=h
 cases rx
 obtain ⟨t,rfl⟩:=ry
 obtain ⟨its,r,pl,hz⟩:=I.list hq
 obtain ⟨j,h1,h2,h3,h4,h5⟩:=aAb he
 obtain ⟨w,ew,rw'⟩:=r.get h2
 have hl:=r.length
 have hn:=pM
 have fin:EP X pins σ Q w s:=⟨z,H,I,rw',q⟩
 by_cases h0:0<=i
 ·have hj:i.toNat=j:=by
   rw [seqIndex_of h0 h5] at h1
   exact Option.some.inj h1
  exact item_listR pl.isList h0 (by omega) (by rw [hj]; simpa using ew) fin hs
 ·have hj:(i+(its.toArray.size:Int)).toNat=j:=by
   rw [seqIndex_neg (by omega) h4] at h1
   rw [Qj,<- hl]
   exact Option.some.inj h1
  exact subscriptTail_builtinR (x:=w) pl.isList.typeIs slot_list_getitem.lookup
   (wpAny_getItem_list_neg (Q:=fun r s'=>r=w/\EP X pins σ Q r s') pl.isList (by omega) (by rw [Qj] <;> omega) (by omega) (by rw [hj]; simpa using ew) ⟨rfl,fin⟩) hs
theorem aZ:IxR X (aFk X.K):=by
 intro value slice pins s σ H x y v u Q I rx ry h hs
 obtain ⟨p,xs,i,z,rfl,rfl,hq,he,q⟩:=h
 cases rx
 obtain ⟨t,rfl⟩:=ry
 obtain ⟨its,r,pl,hz⟩:=I.tuple hq
 obtain ⟨j,h1,h2,h3,h4,h5⟩:=aAb he
 obtain ⟨w,ew,rw'⟩:=r.get h2
 have hl:=r.length
 have hn:=pM
 have fin:EP X pins σ Q w s:=⟨z,H,I,rw',q⟩
 exact subscriptTail_builtinR (x:=w) pl.typeIs slot_tuple_getitem.lookup
  (getItem_tuple (j:=j) (Q:=fun r s'=>r=w/\EP X pins σ Q r s') pl (by omega) (by omega) (by rw [Qj,<- hl]; exact h1) (by simpa using ew) ⟨rfl,fin⟩) hs
theorem yE (its:List Value) (n j:Nat) (u:Value):Obj.mapSeq (·.setIfInBounds j u) { cls:=.type "list",data:=.seq its.toArray n }={ cls:=.type "list",data:=.seq (its.set j u).toArray n }:=by
 simp [Obj.mapSeq]
theorem Inv.lst {pins:List (Addr×Obj)} {σ:St} {H:Hp} {s:Shared} {p:Addr} {xs:List V} (I:Inv X pins σ H s) (h:H p=some (.lst xs)) :
  ∃ (its:List Value) (n:Nat),bG xs its/\s.heap.get? p=some { cls:=.type "list",data:=.seq its.toArray n }/\xs.length<=sizeLine:=by
 obtain ⟨z,its,n,r,e⟩:=I.hok p _ h
 exact ⟨its,n,r,e,z⟩
theorem Inv.lstUpd {pins:List (Addr×Obj)} {σ:St} {H:Hp} {s:Shared} {p:Addr} {xs ys:List V} {its its':List Value} {n n':Nat} {f:Obj->Obj} (I:Inv X pins σ H s) (h:H p=some (.lst xs))
  (ho:s.heap.get? p=some { cls:=.type "list",data:=.seq its.toArray n }) (hf:f { cls:=.type "list",data:=.seq its.toArray n }={ cls:=.type "list",data:=.seq its'.toArray n' }) (r:bG ys its') (hz:ys.length<=sizeLine) (t:Nat) :
  Inv X pins σ (upd H p (.lst ys)) { s with heap:=s.heap.update p f,toks:=t }:=by
 have e:(s.heap.update p f).get? p=some { cls:=.type "list",data:=.seq its'.toArray n' }:=by
  rw [Xs f ho (by rw [hf] <;> rfl),hf]
 refine I.write (x:=p) (e:=p) (by rw [h]; trivial) (.inl rfl) (fun b u hb q=>(Ju _ _ (Ne.symm hb)).trans q) ⟨_,e⟩ ?_
 exact ⟨hz,its',n',r,e⟩
def aFl:V->V->V->Hp->(Hp->Prop)->Prop:=fun o i v H Q=>∃ p xs k j,o=.ref p/\i=.int k/\H p=some (.lst xs)/\ixN xs.length k=some j/\Q (upd H p (.lst (xs.set j v)))
theorem mF:aE7 X aFl:=by
 intro pins s σ H o i v ov iv u Q I ro ri rv h
 obtain ⟨p,xs,k,j,rfl,rfl,hp,hj,q⟩:=h
 cases ro
 obtain ⟨t,rfl⟩:=ri
 obtain ⟨its,n,r,ho,hz⟩:=I.lst hp
 obtain ⟨h1,h2,h3,h4⟩:=aAa hj
 have hl:=r.length
 have hn:=pM
 have I':Inv X pins σ (upd H p (.lst (xs.set j v))) { s with heap:=s.heap.update p (Obj.mapSeq (·.setIfInBounds j u)) } :=
  I.lstUpd hp ho (yE its n j u) (r.set rv j) (by rw [Xk]; exact hz) s.toks
 by_cases h0:0<=k
 ·have hk:k.toNat=j:=by
   rw [seqIndex_of h0 h4] at h1
   exact Option.some.inj h1
  exact PySem.W.ki_setAt ho h0 (by omega) (by rw [Qj,<- hl]; exact h4) (by rw [hk]; exact ⟨_,I',q⟩)
 ·have hk:(k+(its.toArray.size:Int)).toNat=j:=by
   rw [seqIndex_neg (by omega) h3] at h1
   rw [Qj,<- hl]
   exact Option.some.inj h1
  exact PySem.W.ki_setBack ho (by omega) (by rw [Qj,<- hl]; exact h3) (by omega) (by rw [hk]; exact ⟨_,I',q⟩)
def lJ:V->Bool
 | .non=>true
 | .bl _=>true
 | .int _=>true
 | .str _=>true
 | _=>false
def eqV:V->V->Bool
 | .non,.non=>true
 | .bl a,.bl b=>a==b
 | .bl a,.int b=>(if a then 1 else 0)==b
 | .int a,.bl b=>a==(if b then 1 else 0)
 | .int a,.int b=>a==b
 | .str a,.str b=>a==b
 | _,_=>false
theorem aEw {A:Around} {s:Shared} {y x:V} {u v:Value} (ry:bM y u) (rx:bM x v) (fy:lJ y=true) (fx:lJ x=true):SeqAt.EqAt A s u v (eqV y x):=by
 cases y with
 | non =>
  cases ry
  cases x with
  | non=>cases rx; exact SeqAt.EqAt.same _
  | bl b=>cases rx; exact SeqAt.EqAt.none_bool b
  | int b=>obtain ⟨t,rfl⟩:=rx; exact SeqAt.EqAt.none_int b t
  | str b=>obtain ⟨t,rfl⟩:=rx; exact SeqAt.EqAt.none_str b t
  | _=>exact absurd (show false=true from fx) Qv
 | bl a =>
  cases ry
  cases x with
  | non=>cases rx; exact SeqAt.EqAt.bool_none a
  | bl b=>cases rx; exact SeqAt.EqAt.bool_bool a b
  | int b=>obtain ⟨t,rfl⟩:=rx; exact SeqAt.EqAt.bool_int a b t
  | str b=>obtain ⟨t,rfl⟩:=rx; exact SeqAt.EqAt.bool_str a b t
  | _=>exact absurd (show false=true from fx) Qv
 | int a =>
  obtain ⟨t',rfl⟩:=ry
  cases x with
  | non=>cases rx; exact SeqAt.EqAt.int_none a t'
  | bl b=>cases rx; exact SeqAt.EqAt.int_bool a t' b
  | int b=>obtain ⟨t,rfl⟩:=rx; exact SeqAt.EqAt.int_int a t' b t
  | str b=>obtain ⟨t,rfl⟩:=rx; exact SeqAt.EqAt.int_str a t' b t
  | _=>exact absurd (show false=true from fx) Qv
 | str a =>
  obtain ⟨t',rfl⟩:=ry
  cases x with
  | non=>cases rx; exact SeqAt.EqAt.str_none a t'
  | bl b=>cases rx; exact SeqAt.EqAt.str_bool a t' b
  | int b=>obtain ⟨t,rfl⟩:=rx; exact SeqAt.EqAt.str_int a t' b t
  | str b=>obtain ⟨t,rfl⟩:=rx; exact SeqAt.EqAt.str_str a t' b t
  | _=>exact absurd (show false=true from fx) Qv
 | _=>exact absurd (show false=true from fy) Qv
def eqU (x:V) (u:Value):Bool:=match u with
 | .none=>eqV .non x
 | .bool b=>eqV (.bl b) x
 | .int i _=>eqV (.int i) x
 | .str z _=>eqV (.str z) x
 | _=>false
theorem aBQ {x y:V} {u:Value} (r:bM y u) (f:lJ y=true):eqU x u=eqV y x:=by
 cases y with
 | non=>cases r; rfl
 | bl b=>cases r; rfl
 | int i=>obtain ⟨t,rfl⟩:=r; rfl
 | str z=>obtain ⟨t,rfl⟩:=r; rfl
 | _=>exact absurd (show false=true from f) Qv
theorem aAc {x:V}:∀ {xs:List V} {us:List Value},bG xs us->xs.all lJ=true->us.any (eqU x)=xs.any fun y=>eqV y x
 := by
 intro xs us h
 induction h with
 | nil=>intro _; rfl
 | cons r t ih =>
  intro f
  rw [List.all_cons,Jc] at f
  rw [Ye,Ye,aBQ r f.1,ih f.2]
theorem pN {A:Around} {s:Shared} {x:V} {v:Value} (rx:bM x v) (fx:lJ x=true):∀ {xs:List V} {us:List Value},bG xs us->xs.all lJ=true->∀ u∈us,SeqAt.EqAt A s u v (eqU x u)
 | _,_,.nil,_=>fun u hu=>by cases hu
 | y::xs,u::us,.cons r t,f=>fun u' hu=>by
  rw [List.all_cons,Jc] at f
  rcases Qm.mp hu with rfl | hu
  ·rw [aBQ r f.1]; exact aEw r rx f.1 fx
  ·exact pN rx fx t f.2 u' hu
def inV (x:V) (xs:List V):Bool:=xs.any fun y=>eqV y x
def rIn (K:PySem.W.Frag) (neg:Bool):R2:=fun x y H Q=>∃ p xs,y=.ref p/\(SqL K H p xs∨SqT K H p xs)/\lJ x=true/\xs.all lJ=true/\Q (.bl (if neg then !inV x xs else inV x xs)) H
theorem iU:OpR X (compareOp .In) (rIn X.K false):=by
 intro pins s σ H x y v u Q I rx ry h
 obtain ⟨p,xs,rfl,hq,fx,fs,q⟩:=h
 cases ry
 rcases hq with hq | hq
 ·obtain ⟨its,r,pl,hz⟩:=I.list hq
  refine SeqAt.in_listAt (eqU x) pl.isList (fun w hw=>pN rx fx r fs w (by simpa using hw)) ⟨.bl _,H,I,rfl,?_⟩
  rw [show its.toArray.any (eqU x)=its.any (eqU x) by simp,aAc r fs]
  exact q
 ·obtain ⟨its,r,pl,hz⟩:=I.tuple hq
  refine SeqAt.in_tupleAt (eqU x) pl (fun w hw=>pN rx fx r fs w (by simpa using hw)) ⟨.bl _,H,I,rfl,?_⟩
  rw [show its.toArray.any (eqU x)=its.any (eqU x) by simp,aAc r fs]
  exact q
theorem aS:eI X (.builtin "len") (fun xs H Q=>∃ p ys,xs = [.ref p]/\(SqL X.K H p ys∨SqT X.K H p ys)/\Q (.int ys.length) H):=by
 intro pins s σ H xs us Q I r h
 obtain ⟨p,ys,rfl,hq,q⟩:=h
 obtain ⟨u,rfl,rx⟩:=gB r
 cases rx
 have hn:=pM
 rcases hq with hq | hq
 ·obtain ⟨its,r',pl,hz⟩:=I.list hq
  have hlen:=r'.length
  exact Calls.call_len_list pl.isList (by simp only [Qj] <;> omega) ⟨.int ys.length,H,I.tok _,⟨s.toks+1,by rw [Qj,hlen]⟩,q⟩
 ·obtain ⟨its,r',pl,hz⟩:=I.tuple hq
  have hlen:=r'.length
  exact len_tuple pl (by simp only [Qj] <;> omega) ⟨.int ys.length,H,I.tok _,⟨s.toks+1,by rw [Qj,hlen]⟩,q⟩
theorem jK:eI X (.type "list") (fun xs H Q=>∃ p ys,xs = [.ref p]/\(SqL X.K H p ys∨SqT X.K H p ys)/\∀ l,H l=none->Q (.ref l) (upd H l (.lst ys))):=by
 intro pins s σ H xs us Q I r h
 obtain ⟨p,ys,rfl,hq,q⟩:=h
 obtain ⟨u,rfl,rx⟩:=gB r
 cases rx
 have fin:∀ (its:List Value),bG ys its->ys.length<=sizeLine->∀ (h':Heap) (c':Nat),(∀ b o',s.heap.get? b=some o'->h'.get? b=some o') ->
   h'.get? s.heap.objs.size=some { cls:=.type "list",dict:=none,data:=.seq its.toArray c',slots:=#[] }->EP X pins σ Q (.ref s.heap.objs.size) { s with heap:=h' }:=fun its r' hz h' c' kp e =>
  ⟨.ref s.heap.objs.size,_,I.laid (t':=s.toks) kp (Qh _) (show bW X.prog X.w _ h' _ (.lst ys) from ⟨hz,its,c',r',e⟩),rfl,q _ (I.hok.fresh (Qh _))⟩
 rcases hq with hq | hq
 ·obtain ⟨its,r',pl,hz⟩:=I.list hq
  have hlen:=r'.length
  obtain ⟨o,ho,hc,n,hd⟩:=pl.isList
  exact call_list_seq p (.inl rfl) ho hc hd (fun h' c' kp e=>fin its r' hz h' c' kp e) (by simp only [Qj] <;> omega)
 ·obtain ⟨its,r',pl,hz⟩:=I.tuple hq
  have hlen:=r'.length
  obtain ⟨o,ho,hc,n,hd⟩:=pl
  exact call_list_seq p (.inr rfl) ho hc hd (fun h' c' kp e=>fin its r' hz h' c' kp e) (by simp only [Qj] <;> omega)
theorem bI:eI X (.type "tuple") (fun xs H Q=>∃ p ys,xs = [.ref p]/\((SqL X.K H p ys/\∀ l,H l=none->Q (.ref l) (upd H l (.tup ys)))∨(SqT X.K H p ys/\Q (.ref p) H))):=by
 intro pins s σ H xs us Q I r h
 obtain ⟨p,ys,rfl,h⟩:=h
 obtain ⟨u,rfl,rx⟩:=gB r
 cases rx
 rcases h with ⟨hq,q⟩ | ⟨hq,q⟩
 ·obtain ⟨its,r',pl,hz⟩:=I.list hq
  have hlen:=r'.length
  refine call_tuple_list pl.isList (fun h' kp=>?_) (by simp only [Qj] <;> omega)
  have I1:Inv X pins σ H { s with heap:=h' }:=I.kept (t':=s.toks) kp
  have I2:Inv X pins σ (upd H h'.objs.size (.tup ys)) { s with heap:=h'.push { cls:=.type "tuple",data:=.seq its.toArray } } :=
   I1.laid (t':=s.toks) (fun b o e=>Qa _ e) (Qh _) (show bW X.prog X.w _ _ _ (.tup ys) from ⟨hz,its,0,r',Qi _ rfl⟩)
  exact ⟨.ref h'.objs.size,_,I2,rfl,q _ (I1.hok.fresh (Qh _))⟩
 ·obtain ⟨its,r',pl,hz⟩:=I.tuple hq
  exact call_tuple_same pl ⟨.ref p,H,I,rfl,q⟩
def tyV (K:PySem.W.Frag) (T:String) (x:V) (H:Hp):Prop:=match x with
 | .str _=>T = "str"
 | .int _=>T = "int"
 | .ref p => (T = "list" /\ ∃ xs, SqL K H p xs) ∨ (T = "tuple" /\ ∃ xs, SqT K H p xs) ∨
     (T = "dict" /\ ((∃ kvs,H p=some (.dK kvs))∨∃ kvs,H p=some (.dT kvs)))∨(T = "set" /\ ∃ S n,H p=some (.set S n))
 | _=>False
theorem aEx {pins:List (Addr×Obj)} {σ:St} {H:Hp} {s:Shared} {T:String} {x:V} {v:Value} (I:Inv X pins σ H s) (r:bM x v) (ty:tyV X.K T x H) :
  s.TypeIs v T/\∀ a,v=.ref a->∃ ob,s.heap.get? a=some ob/\ob.dict=none:=by
 cases x with
 | str z =>
  obtain ⟨t,rfl⟩:=r
  cases (show T = "str" from ty)
  exact ⟨typeIs_str s z t,fun _ e=>nomatch e⟩
 | int i =>
  obtain ⟨t,rfl⟩:=r
  cases (show T = "int" from ty)
  exact ⟨typeIs_int s i t,fun _ e=>nomatch e⟩
 | ref p =>
  cases r
  rcases ty with ⟨rfl,xs,hq⟩ | ⟨rfl,xs,hq⟩ | ⟨rfl,hk⟩ | ⟨rfl,S,n,hk⟩
  ·obtain ⟨its,_,pl,_⟩:=I.list hq
   refine ⟨pl.isList.typeIs,fun a e=>?_⟩
   cases e
   obtain ⟨o,n,e,c,hd,_⟩:=pl
   exact ⟨o,e,hd⟩
  ·obtain ⟨o,e,hc,hd⟩:∃ o,s.heap.get? p=some o/\o.cls=.type "tuple" /\ o.dict=none:=by
    rcases hq with hq | ⟨o,_,_,hk,hc,hd,_⟩
    ·obtain ⟨_,its,n,_,e⟩:=hq.ok I.hok
     exact ⟨_,e,rfl,rfl⟩
    ·exact ⟨o,I.kIn p o hk,hc,hd⟩
   refine ⟨⟨o,e,hc⟩,fun a e2=>?_⟩
   cases e2
   exact ⟨o,e,hd⟩
  ·have z:∃ o,s.heap.get? p=some o/\o.ExactDict:=by
    rcases hk with ⟨kvs,hk⟩ | ⟨kvs,hk⟩
    ·obtain ⟨_,_,_,_,o,_,_,e,ex,_⟩:=I.hok p _ hk
     exact ⟨o,e,ex⟩
    ·obtain ⟨_,_,_,_,o,_,_,e,ex,_⟩:=I.hok p _ hk
     exact ⟨o,e,ex⟩
   obtain ⟨o,e,ex⟩:=z
   refine ⟨⟨o,e,ex.1⟩,fun a e2=>?_⟩
   cases e2
   exact ⟨o,e,ex.2.1⟩
  ·obtain ⟨o,_,_,_,e,ex,_⟩:=I.hok p _ hk
   refine ⟨⟨o,e,ex.1⟩,fun a e2=>?_⟩
   cases e2
   exact ⟨o,e,ex.2.1⟩
 | _=>exact False.elim ty
def tBM (K:PySem.W.Frag) (T:String) (r:V->List V->Hp->VK->Prop) (to:TE) (t:TA):TE:=fun σ H Q=>to σ H fun x H1=>tyV K T x H1/\t σ H1 fun xs H2=>r x xs H2 Q
variable {o e:Expr} {es:List Expr} {to:TE} {t:TA} {name:Str} {apos cpos:Pos} {T id:String} {r:V->List V->Hp->VK->Prop}
theorem mG (pa:PlainAttrs T) (slot:Slot T name id) (hty:typeOf (.builtin id)=pure (.type "method_descriptor")) (hm:MtR X id r) (ho:PE X o to) (ha:PA X (e::es) t)
  (hbase:attributeBase o name X.env (eval o X.env)=eval o X.env:=by rfl)
  (hfew:((backTo cpos (starEach (e::es) X.env)).all (fun x=>!x.1) && (backToKw cpos (keywordEach [] X.env)).all (fun x=>x.1.isSome)
   && decide ((e::es).length+([]:List Keyword).length+(if ([]:List Keyword).isEmpty then 0 else 1) < 30))=true:=by rfl)
  (hline:(apos.endLine==cpos.line)=true:=by rfl) (hs:starEach (e::es) X.env=(false,eval e X.env)::starEach es X.env:=by rfl) (hplain:(backTo cpos (starEach es X.env)).any (·.1)=false:=by rfl) :
  PE X (.Call (.Attribute o name apos) (e::es) [] cpos) (tBM X.K T r to t):=by
 intro pins s σ H Q I h
 refine wpAny_Call_method_late hbase hfew hline rfl (thn (ho pins s σ H _ I h) fun v s1 hx9=>?_)
 obtain ⟨x,H1,I1,r1,ty,q1⟩:=hx9
 obtain ⟨h1,h2⟩:=aEx I1 r1 ty
 refine ⟨T,id,pa,slot,hty,h1,h2,?_⟩
 have hA:=ha cpos pins s1 σ H1 _ I1 q1
 rw [hs] at hA ⊢
 refine Calls.callWith_builtin (by show (false || (backTo cpos (starEach es X.env)).any (·.1))=false; rw [hplain] <;> rfl) (Calls.evalArgs_plain ?_)
 refine thn hA fun us s2 hx9=>?_
 obtain ⟨vs,H2,I2,r2,q2⟩:=hx9
 exact hm pins s2 σ H2 x vs v us Q I2 r1 r2 q2
/- xs.append(e),list.index on a module's tuple .. are MtR facts of 06m -/
end
def MtM (X:Cx) (id:String) (r:V->List V->Hp->VK->Prop):Prop :=
 ∀ (pins:List (Addr×Obj)) (s:Shared) (σ:St) (H:Hp) (x:V) (xs:List V) (v:Value) (us:List Value) (Q:VK),Inv X pins σ H s->bM x v->bG xs us->r x xs H Q ->
  wpAny (model X.prog X.w) X.A (call (.builtin id) (v::us)) (EP X pins σ Q) X.xe s
theorem bG.one {x:V} {us:List Value} (r:bG [x] us):∃ u,us = [u]/\bM x u:=gB r
theorem bG.two {x y:V} {us:List Value} (r:bG [x,y] us):∃ u v,us = [u,v]/\bM x u/\bM y v:=kE r
theorem bG.eraseIdx:∀ {xs:List V} {us:List Value} (i:Nat),bG xs us->bG (xs.eraseIdx i) (us.eraseIdx i)
 | _,_,_,.nil=>.nil
 | _,_,0,.cons _ t=>t
 | _,_,i+1,.cons r t=>.cons r (bG.eraseIdx i t)
theorem bG.reverse {xs:List V} {us:List Value} (h:bG xs us):bG xs.reverse us.reverse:=by
 induction h with
 | nil=>exact .nil
 | cons r t ih=>rw [Zu,Zu]; exact bG.append ih (.cons r .nil)
theorem bG.rep {xs:List V} {us:List Value} (h:bG xs us):∀ k:Nat,bG (List.replicate k xs).flatten (List.replicate k us).flatten
 | 0=>.nil
 | k+1=>by
  rw [Xw,Xw,Zf,Zf]
  exact bG.append h (bG.rep h k)
theorem tD {α:Type}:∀ (l:List α) (i:Nat),(l.eraseIdx i).length<=l.length
 | [],_=>Qh _
 | _::_,0=>Wk _
 | _::r,i+1=>Yx (tD r i)
theorem kW (its:List Value):∀ (k:Nat) (acc:List Value),
  List.foldl (fun x1 x2=>x1++x2) acc.toArray (List.replicate k its.toArray)=(acc++(List.replicate k its).flatten).toArray
 | 0,acc=>by simp
 | k+1,acc=>by
  have e:acc.toArray++its.toArray=(acc++its).toArray:=by simp
  have e2:(acc++its)++(List.replicate k its).flatten=acc++(List.replicate (k+1) its).flatten:=by
   rw [Xw,Zf,Zv]
  rw [<- e2,<- kW its k (acc++its),<- e,Xw,List.foldl_cons]
section
variable {X:Cx} {pins:List (Addr×Obj)} {σ:St} {H:Hp} {s:Shared} {l b:Addr} {xs ys zs:List V}
theorem Inv.lset {its its':List Value} {n:Nat} {f:Array Value->Array Value} {t':Nat} (I:Inv X pins σ H s) (hH:H l=some (.lst xs))
  (e:s.heap.get? l=some { cls:=.type "list",data:=.seq its.toArray n }) (hf:f its.toArray=its'.toArray) (hv:bG ys its') (hz:ys.length<=sizeLine) :
  Inv X pins σ (upd H l (.lst ys)) { s with heap:=s.heap.update l (Obj.mapSeq f),toks:=t' }:=by
 have q:=PySem.IsL.update e f
 rw [hf] at q
 refine I.write (x:=l) (e:=l) (by rw [hH]; exact trivial) (.inl rfl) (fun b' u hb hu=>(Ju s.heap (Obj.mapSeq f) (Ne.symm hb)).trans hu) ⟨_,q⟩ ?_
 exact ⟨hz,its',_,hv,q⟩
theorem Inv.lnew {its:List Value} {t':Nat} (I:Inv X pins σ H s) (hv:bG ys its) (hz:ys.length<=sizeLine) :
  Inv X pins σ (upd H s.heap.objs.size (.lst ys)) { s with heap:=s.heap.push { cls:=.type "list",data:=.seq its.toArray },toks:=t' } :=
 I.laid (fun _ _ q=>Qa _ q) (Qh _) ⟨hz,its,0,hv,Qi _ rfl⟩
theorem Inv.fresh (I:Inv X pins σ H s):H s.heap.objs.size=none:=I.hok.fresh (Qh _)
theorem Inv.lstM (I:Inv X pins σ H s) (hH:H l=some (.lst xs)):xs.length<=sizeLine/\∃ (its:List Value) (n:Nat),bG xs its/\xs.length=its.length/\s.heap.get? l=some { cls:=.type "list",data:=.seq its.toArray n }:=by
 obtain ⟨z,its,n,r,e⟩:=I.hok l _ hH
 exact ⟨z,its,n,r,r.length,e⟩
theorem aBR {n:Nat} (h:n<=sizeLine):Builtin.List.listTooLong n=false:=by
 unfold Builtin.List.listTooLong
 exact decide_eq_false (by omega)
end
section
variable {X:Cx}
def aDj:V->List V->Hp->VK->Prop:=fun x vs H Q=>∃ l xs y,x=.ref l/\vs = [y]/\H l=some (.lst xs)/\xs.length < sizeLine/\Q .non (upd H l (.lst (xs++[y])))
theorem gO:MtM X "list.append" aDj:=by
 intro pins s σ H x vs v us Q I rx rv h
 obtain ⟨l,xs,y,rfl,rfl,hH,hz,q⟩:=h
 cases rx
 obtain ⟨u,rfl,ru⟩:=rv.one
 obtain ⟨z,its,n,r,hl,e⟩:=I.lstM hH
 refine call_meets F.slot_list_append ⟨_,e,rfl⟩ F.entry_list_append (F.args_list_append_2 _ _) (PySem.list_append l its.toArray n u (by rw [Qj]; omega)) ⟨e,?_⟩
 refine ⟨.non,_,I.lset (its':=its++[u]) hH e (by simp) (r.append (.cons ru .nil)) ?_,rfl,q⟩
 rw [Qk,List.length_singleton]
 omega
def aEy:V->List V->Hp->VK->Prop:=fun x vs H Q=>∃ l xs i k y,x=.ref l/\vs = [.int i]/\H l=some (.lst xs)/\-(2^63)<=i/\i < 2^63/\seqIndex? i xs.length=some k/\xs[k]?=some y/\Q y (upd H l (.lst (xs.eraseIdx k)))
theorem aBS:MtM X "list.pop" aEy:=by
 intro pins s σ H x vs v us Q I rx rv h
 obtain ⟨l,xs,i,k,y,rfl,rfl,hH,h1,h2,hk,hy,q⟩:=h
 cases rx
 obtain ⟨u,rfl,ru⟩:=rv.one
 obtain ⟨t,rfl⟩:=ru
 obtain ⟨z,its,n,r,hl,e⟩:=I.lstM hH
 obtain ⟨w,hw,rw'⟩:=r.get hy
 refine call_meets F.slot_list_pop ⟨_,e,rfl⟩ F.entry_list_pop (F.args_list_pop_2 _ _)
  (MeetsSeq.list_pop_at l its.toArray n i t k w (fitsIndex_both h1 h2) (by rw [Qj,<- hl]; exact hk) (by rw [<- Array.getElem?_toList]; exact hw) (by rw [Qj]; omega)) ⟨e,?_⟩
 refine ⟨y,_,I.lset (its':=its.eraseIdx k) hH e ?_ (r.eraseIdx k) ?_,rw',q⟩
 ·show its.toArray.eraseIdxIfInBounds k=(its.eraseIdx k).toArray
  rw [List.eraseIdxIfInBounds_toArray]
 ·have:=tD xs k
  omega
def aFW:R2:=fun x y H Q=>∃ l b xs zs,x=.ref l/\y=.ref b/\H l=some (.lst xs)/\H b=some (.lst zs)/\xs.length+zs.length<=sizeLine/\∀ p,H p=none->Q (.ref p) (upd H p (.lst (xs++zs)))
theorem aBT:OpR X (binaryOp .Add) aFW:=by
 intro pins s σ H x y v u Q I rx ry h
 obtain ⟨l,b,xs,zs,rfl,rfl,hH,hB,hz,q⟩:=h
 cases rx
 cases ry
 obtain ⟨z,its,n,r,hl,e⟩:=I.lstM hH
 obtain ⟨z2,its2,n2,r2,hl2,e2⟩:=I.lstM hB
 refine PySem.P.add_list e e2 ?_ (by rw [Qj,Qj]; omega)
 have ea:its.toArray++its2.toArray=(its++its2).toArray:=by simp
 rw [ea]
 exact ⟨.ref _,_,I.lnew (t':=s.toks) (r.append r2) (by rw [Qk]; omega),rfl,q _ I.fresh⟩
def aFX:R2:=fun x y H Q=>∃ l k xs,x=.ref l/\y=.int k/\H l=some (.lst xs)/\-(2^63)<=k/\k < 2^63/\xs.length*k.toNat<=sizeLine /\
 ∀ p,H p=none->Q (.ref p) (upd H p (.lst (List.replicate k.toNat xs).flatten))
theorem uF {α:Type} (xs:List α) (k:Nat):(List.replicate k xs).flatten.length=k*xs.length:=by
 induction k with
 | zero=>simp
 | succ k ih=>rw [Xw,Zf,Qk,ih,Nat.succ_mul,Nat.add_comm]
theorem aEz:OpR X (binaryOp .Mult) aFX:=by
 intro pins s σ H x y v u Q I rx ry h
 obtain ⟨l,k,xs,rfl,rfl,hH,h1,h2,hz,q⟩:=h
 cases rx
 obtain ⟨t,rfl⟩:=ry
 obtain ⟨z,its,n,r,hl,e⟩:=I.lstM hH
 have hlen:its.toArray.size*k.toNat<=sizeLine:=by rw [Qj,<- hl]; exact hz
 have hcap:¬ its.toArray.size*k.toNat > (2^63 - 1) / 8:=by
  have:(sizeLine:Nat)<=(2^63 - 1) / 8:=by decide
  omega
 have hfit:¬ (!Builtin.List.listFitsIndex k)=true:=by
  rw [fitsIndex_both h1 h2]
  exact Qv
 have hlong:¬ Builtin.List.listTooLong (its.toArray.size*k.toNat)=true:=by
  rw [aBR hlen]
  exact Qv
 have hnew:List.foldl (fun x1 x2=>x1++x2) #[] (List.replicate (if its.toArray.isEmpty=true then 0 else k.toNat) its.toArray)=(List.replicate k.toNat its).flatten.toArray:=by
  have f0:∀ m:Nat,List.foldl (fun x1 x2=>x1++x2) #[] (List.replicate m its.toArray)=(List.replicate m its).flatten.toArray:=fun m=>by
   have:=kW its m []
   rw [Zb] at this
   exact this
  rw [f0]
  cases its with
  | nil=>simp
  | cons a r'=>rw [if_neg (by simp)]
 refine wpAny_binaryOp_repeat_ref (T := "list") (U := "int") (by decide) ⟨_,e,rfl⟩ (fun s'=>typeIs_int s' k t) noFill_list_mul F.fills_int_mul F.slot_int_rmul repeat_list F.slot_int_index.lookup
  (call_meets F.slot_int_rmul (typeIs_int s k t) F.entry_int_rmul (F.args_int_rmul_2 _ _) (int___rmul___int_list k t l its.toArray n)
   ⟨e,rfl,⟨_,e,rfl⟩,call_meets F.slot_list_mul ⟨_,e,rfl⟩ F.entry_list_mul (F.args_list_mul_2 _ _) (AutoListH.list___mul___list_int_3 l its.toArray n k t hfit hcap hlong) ⟨e,?_⟩⟩)
 rw [hnew]
 exact ⟨.ref _,_,I.lnew (t':=s.toks) (r.rep k.toNat) (by rw [uF,Nat.mul_comm]; exact hz),rfl,q _ I.fresh⟩
end
section
variable {prog:Program} {w:World} {A:Around} {E:Value->Shared->Prop} {s:Shared}
end
section
variable {X:Cx}
end
end L2
namespace Att
open PySem PySem.W PySem.Calls PyProof.Rows
theorem oV {P:Params} {h:Heap}:∀ (ns:List Int) (vs:List Value),WellAll P h vs (ns.map WData.int)->IntsAre vs ns:=by
 intro ns
 induction ns with
 | nil =>
  intro vs w
  rw [Wu] at w
  cases w
  exact .nil
 | cons n ns ih =>
  intro vs w
  rw [Jj] at w
  cases w with
  | cons a b =>
   cases a
   exact .cons _ _ (ih _ b)
theorem aAV {l:OpenLaw} {n:Nat} (hn:l.most=some n) {P:Params} {h:Heap} {args:List WData} {vals:List Value}
  (hpre:l.row.toRowW.claim.pre args=true) (hwl:WellAll P h vals args) :
  ∃ a vs ns,vals = [Value.ref a]/\args = [WData.list (ns.map WData.int)]/\h.get? a=some { cls:=.type "list",data:=.seq vs.toArray }/\IntsAre vs ns/\ns.length<=n:=by
 have hsh:WShape.hasAll [] args [.list .int]=true:=(pre_splitW hpre).1
 have hc:l.pre.holds [] { args:=args }=true:=(pre_splitW hpre).2
 obtain ⟨d,r,rfl,h1,h2⟩:=hasAllW_cons hsh
 obtain rfl:=hasAllW_nil h2
 obtain ⟨xs,rfl,h3⟩:=hasW_list h1
 obtain ⟨ns,rfl⟩:=items_int h3
 have hlen:ns.length<=n:=by
  unfold OpenLaw.pre at hc
  have h4:(WTm.not (.lt (.lit (.int (n:Int))) (.len (.arg 0)))).holds [] { args:=[.list (ns.map .int)] }=true:=by
   have h4:=(holds_andW hc).1
   rw [hn] at h4
   exact h4
  have h5:=condW_of h4 (w_not (w_lt w_lit (w_len_list (w_arg rfl))))
  rw [Qb] at h5
  refine Nat.le_of_not_lt fun q=>?_
  have q':(n:Int) < ((ns.length:Nat):Int):=by omega
  first
   | (rw [decide_eq_true q'] at h5; exact absurd h5 (by decide))
   | (simp at h5; omega)
 cases hwl with
 | cons w1 w2 =>
  cases w2
  cases w1 with
  | list ho hall=>exact ⟨_,_,ns,rfl,rfl,ho,oV ns _ hall,hlen⟩
theorem aAW (l:OpenLaw) (args:List WData):l.row.toRowW.claim.post args (.bool true) args=true :=
 postW_of (r:=l.row.toRowW) (X:=(true==true))
  (show WShape.has [] (.bool true) .bool=true by first | rfl | decide | simp [WShape.has,WShape.arms,WShape.armsAll])
  (show (WTm.eq .res (.lit (.bool true))).value [] { args:=args,res:=some (.bool true),after:=args }=some (.bool (true==true)) from w_eq_bool (w_res rfl) w_lit) rfl
theorem attach_call {l:OpenLaw} {n:Nat} {q:Program} {loose:List Str} {XP:(Str->Option Value)->Heap->Prop} {YP:World->Heap->Prop} {d:DefRec}
  (hn:l.most=some n) (hdf:d.params.defaults = [])
  (call:∀ (w:World) (s₀ s₁:Shared) (mg mb:Str->Option Value) (fa:Addr) (o:Obj) (pm cd doc:Value) (a:Addr) (vs:List Value) (ns:List Int),
   Ground q loose [] XP w s₀ mg mb s₁.heap->YP w s₁.heap ->
   s₁.heap.get? fa=some o->o.data=.func (docDef d.name d.params d.body d.scope pm cd doc)->s₁.heap.CodeRec cd d.name->mg d.name=some (.ref fa) ->
   s₁.heap.get? a=some { cls:=.type "list",data:=.seq vs.toArray }->IntsAre vs ns->ns.length<=n->s₁.gens = #[] ->
   codeAny (model l.prog w) callerA (.call (.ref fa) ⟨[.ref a],[]⟩) (fun r s'=>r=.ok (.ret (.bool true))/\OldK s₁.heap s'.heap/\s'.os=s₁.os/\AllBare s'.gens) s₁) :
  WalkO q loose XP YP l.row.toRowW d [] (fun f vs=>PySem.call f vs):=by
 intro w s₀ s₁ mg mb G Y fa o pm cd doc dV kV ho hd hcd hD hmg hg args vals as hpre hlay hrd hwl hlo
 obtain rfl:dV=.none:=Dflts.none hD hdf
 obtain rfl:kV=.none:=Dflts.noKw hD
 obtain ⟨a,vs,ns,rfl,rfl,hobj,hints,hlen⟩:=aAV hn hpre hwl
 refine enter_call (codeAny_mono (call w s₀ s₁ mg mb fa o pm cd doc a vs ns G Y ho (fd_plain hd) hcd hmg hobj hints hlen hg) fun r s' hq=>?_)
 obtain ⟨rfl,h2,h3,h4⟩:=hq
 exact ⟨.inl ⟨.bool true,.bool true,[],rfl,fun _=>rfl,.bool true,aAW l _,fun _=>⟨List.Pairwise.nil,fun _ hm=>(nomatch hm)⟩⟩,h2,h3,h4⟩
section
variable {prog:Program} {w:World} {A:Around} {E:Value->Shared->Prop} {s:Shared} {K:Frag}
end
end Att
namespace L2
open PySem PySem.Spec PyProof.Rows
theorem kX:∀ {vs:List Value} {ns:List Int},IntsAre vs ns->bG (ns.map V.int) vs
 := by
 intro vs ns h
 induction h with
 | nil=>exact .nil
 | cons n t h ih=>exact .cons ⟨t,rfl⟩ ih
def iM (s:Stmt):Arguments:=match s with
 | .FunctionDef _ a _ _ _ _ _ _ _ _=>a
 | _=>{ posonlyargs:=[],args:=[],vararg:=none,kwonlyargs:=[],kw_defaults:=[],kwarg:=none,defaults:=[] }
def gT (s:Stmt):List Stmt:=match s with
 | .FunctionDef _ _ b _ _ _ _ _ _ _=>b
 | _=>[]
def aF (s:Stmt):Scope:=match s with
 | .FunctionDef _ _ _ _ _ _ sc _ _ _=>sc
 | _=>{ kind:=.function,names:=[],isGenerator:=false,isCoroutine:=false }
abbrev CX0:CXT:=fun _ _ _ _ _ _=>False
abbrev E0:XK:=fun _ _ _=>False
theorem aFm {X:Cx}:yA CX0 X E0:=fun _ _ _ _ _ _ _ h=>h.elim
structure Fun (K:PySem.W.Frag) (x qual:Str) (st:Stmt) (f:Addr) (fd:FuncData):Prop where
 ex:∃ (oc:Value) (od:Option Addr) (kV doc pm:Value) (an:Option Addr) (cdv ct:Value) (osl:Array (Option Value)),
  fd=PySem.W.fnOf x qual (iM st) (gT st) (aF st) .none kV doc pm an cdv ct/\K.lookup f=some ⟨oc,od,.func fd,osl⟩/\PySem.W.codeIn K cdv qual=true
 kp:PySem.W.keepIn K (.ref f)=true
section
variable {P:Program} {w:World} {K:PySem.W.Frag} {mg:Str->Option Value} {base:Heap}
theorem Fun.ok {x qual:Str} {st:Stmt} {f:Addr} {fd:FuncData} {N ps:List Str} {k:Nat} {sp:Sp} (F:Fun K x qual st f fd) (S:FnScope N ps (aF st)) (len:∀ vs H Q E,sp vs H Q E->vs.length=ps.length)
  (hbody:∀ (cdv:Value) (A:Around) (outer:List Env) (s:Shared) (H:Hp) (vs:List V) (Q:VK) (E:XK),Room k (A.deeper (envOfC qual (aF st) s.heap.objs.size f cdv))->sp vs H Q E ->
   ∃ t,PSs (yB CX0 P w K mg base N qual (aF st) f cdv A outer s H E).nox (gT st) t/\t { nx:=fun _ H'=>Q .non H',rt:=Q } (start N vs) H):FnOk P w K mg base CX0 (k+1) f fd ps sp:=by
 obtain ⟨oc,od,kV,doc,pm,an,cdv,ct,osl,rfl,lk,hcd⟩:=F.ex
 refine aD7 lk hcd S len fun A outer s H vs Q E hr hsp=>?_
 obtain ⟨t,h,q⟩:=hbody cdv A outer s H vs Q E hr hsp
 exact ⟨t,h.nox,q⟩
theorem Fun.binds {x qual:Str} {st:Stmt} {f:Addr} {fd:FuncData} {ps:List Str} (F:Fun K x qual st f fd)
  (h:∀ (kV doc pm:Value) (an:Option Addr) (cdv ct:Value) (us:List Value),us.length=ps.length->bindArgs (PySem.W.fnOf x qual (iM st) (gT st) (aF st) .none kV doc pm an cdv ct) ⟨us,[]⟩=pure (ps.zip us)):sV K fd ps []:=by
 obtain ⟨oc,od,kV,doc,pm,an,cdv,ct,osl,rfl,lk,hcd⟩:=F.ex
 exact .all (h kV doc pm an cdv ct)
theorem aBU {x qual:Str} {st:Stmt} {f:Addr} {oc:Value} {od an:Option Addr} {osl:Array (Option Value)} {kV doc pm cdv ct:Value} (l:K.lookup f=some ⟨oc,od,.func (PySem.W.fnOf x qual (iM st) (gT st) (aF st) .none kV doc pm an cdv ct),osl⟩)
  (c:PySem.W.codeIn K cdv qual=true) (k:PySem.W.keepIn K (.ref f)=true):Fun K x qual st f (PySem.W.fnOf x qual (iM st) (gT st) (aF st) .none kV doc pm an cdv ct):=⟨⟨oc,od,kV,doc,pm,an,cdv,ct,osl,rfl,l,c⟩,k⟩
end
theorem pO {A:Around} {k:Nat} (hr:Room k A):A.units+1 < cLine:=Zs (Nat.add_le_add_left (by decide:1<=64) _) hr.units
section
variable {X:Cx}
theorem pv (i:Nat) {x:Str} {pos:Pos} (hN:X.N[i]?=some x:=by rfl) (hv:Vis X.env.scope x:=by first | exact Or.inl rfl | exact Or.inr (Or.inl rfl) | exact Or.inr (Or.inr rfl)) (hd:(x==("__debug__" : Str))=false:=by decide)
  (hcd:(x==("__classdict__" : Str))=false:=by decide):PE X (.Name x pos) (aEY i):=aEk hN hv hd hcd
end
theorem eE {A B:Prop} (h:B):if false=true then A else B:=by
 rw [if_neg Qv]
 exact h
theorem gQ {A B:Prop} (h:A):if true=true then A else B:=by
 rw [if_pos rfl]
 exact h
theorem eK {c A B:Prop} [Decidable c] (h1:c->A) (h2:¬ c->B):if c then A else B:=by
 by_cases h:c
 ·rw [if_pos h]
  exact h1 h
 ·rw [if_neg h]
  exact h2 h
def aE (H H':Hp):Prop:=∀ b o,H b=some o->H' b=some o
theorem aE.refl (H:Hp):aE H H:=fun _ _ h=>h
theorem aE.trans {H H1 H2:Hp} (a:aE H H1) (b:aE H1 H2):aE H H2:=fun c o h=>b c o (a c o h)
theorem aE.free {H H':Hp} (e:aE H H') {l:Addr} (h:H' l=Option.none):H l=Option.none:=by
 cases q:H l with
 | none=>rfl
 | some o =>
  rw [e l o q] at h
  cases h
def cY (env:Env):List (Str×NameKind)->List (Str×Addr)->List (Str×Addr)
 | [],acc=>acc
 | (n,k)::r,acc=>if k==.free then (match env.cells.lookup n with | some c=>cY env r ((n,c)::acc) | none=>cY env r acc) else cY env r acc
theorem vT {env:Env}:∀ (names:List (Str×NameKind)) (acc:List (Str×Addr)),(∀ y∈names,y.2=.free->∃ c,env.cells.lookup y.1=some c) ->
  (forIn names acc fun (x:Str×NameKind) (r:List (Str×Addr))=>(match x with
   | (name,kind)=>if (kind==NameKind.free)=true then (do let a<-cellOf env name; pure (ForInStep.yield ((name,a)::r))) else pure (ForInStep.yield r):Sem (ForInStep (List (Str×Addr)))))=(pure (cY env names acc):Sem _)
 | [],acc,_=>rfl
 | (n,k)::r,acc,h=>by
  have ih:=fun acc=>vT r acc fun y hy=>h y (Qr _ hy)
  rw [Xl]
  by_cases hk:(k==NameKind.free)=true
  ·obtain ⟨c,hc⟩:=h (n,k) Qq (by simpa using hk)
   have e1:cY env ((n,k)::r) acc=cY env r ((n,c)::acc):=by
    show (if k==.free then _ else _)=_
    rw [if_pos hk]; simp only at hc; rw [hc]
   simp only at hc
   rw [e1,<- ih]
   simp only [hk,if_true,cellOf,hc]
   rfl
  ·have e1:cY env ((n,k)::r) acc=cY env r acc:=by
    show (if k==.free then _ else _)=_
    rw [if_neg hk]
   rw [e1,<- ih]
   simp only [hk,if_false]
   rfl
theorem yF {env:Env} {scope:Scope} (h:∀ y∈scope.names,y.2=.free->∃ c,env.cells.lookup y.1=some c):closureFor scope env=pure (cY env scope.names []):=by
 unfold closureFor
 have e:=vT scope.names [] h
 show (forIn scope.names [] _ >>= _)=_
 exact (congrArg (fun z=>z >>= fun r=>pure r) e).trans rfl
theorem iI {env:Env}:∀ (names:List (Str×NameKind)) (acc:List (Str×Addr)) (n:Str) (c:Addr),(n,c)∈cY env names acc->(n,c)∈acc∨env.cells.lookup n=some c
 | [],_,_,_,h=>.inl h
 | (m,k)::r,acc,n,c,h=>by
  by_cases hk:(k==NameKind.free)=true
  ·rw [show cY env ((m,k)::r) acc=(match env.cells.lookup m with | some c=>cY env r ((m,c)::acc) | none=>cY env r acc) from if_pos hk] at h
   cases e:env.cells.lookup m with
   | none=>rw [e] at h; exact iI r acc n c h
   | some d =>
    rw [e] at h
    rcases iI r _ n c h with q | q
    ·rcases Qm.mp q with q | q
     ·cases q; exact .inr e
     ·exact .inl q
    ·exact .inr q
  ·rw [show cY env ((m,k)::r) acc=cY env r acc from if_neg hk] at h
   exact iI r acc n c h
theorem kH {env:Env}:∀ (names:List (Str×NameKind)) (acc:List (Str×Addr)) (n:Str),((∃ c,(n,c)∈acc)∨((n,NameKind.free)∈names/\∃ c,env.cells.lookup n=some c))->∃ c,(n,c)∈cY env names acc
 | [],_,_,h=>by
  rcases h with h | ⟨h,_⟩
  ·exact h
  ·cases h
 | (m,k)::r,acc,n,h=>by
  by_cases hk:(k==NameKind.free)=true
  ·rw [show cY env ((m,k)::r) acc=(match env.cells.lookup m with | some c=>cY env r ((m,c)::acc) | none=>cY env r acc) from if_pos hk]
   cases e:env.cells.lookup m with
   | none =>
    refine kH r acc n ?_
    rcases h with h | ⟨h,c,hc⟩
    ·exact .inl h
    ·rcases Qm.mp h with h | h
     ·cases h; rw [e] at hc; cases hc
     ·exact .inr ⟨h,c,hc⟩
   | some d =>
    refine kH r _ n ?_
    rcases h with ⟨c,h⟩ | ⟨h,c,hc⟩
    ·exact .inl ⟨c,Qr _ h⟩
    ·rcases Qm.mp h with h | h
     ·cases h; exact .inl ⟨d,Qq⟩
     ·exact .inr ⟨h,c,hc⟩
  ·rw [show cY env ((m,k)::r) acc=cY env r acc from if_neg hk]
   refine kH r acc n ?_
   rcases h with h | ⟨h,c,hc⟩
   ·exact .inl h
   ·rcases Qm.mp h with h | h
    ·cases h; exact absurd rfl hk
    ·exact .inr ⟨h,c,hc⟩
theorem fP {β:Type}:∀ {l:List (Str×β)} {a:Str} {b:β},l.lookup a=some b->(a,b)∈l:=PySem.mem_of_lookup_some
theorem kI {β:Type}:∀ {l:List (Str×β)} {a:Str} {b:β},(a,b)∈l->∃ c,l.lookup a=some c
 | (k,v)::l,a,b,h=>by
  rw [Xa]
  by_cases e:(a==k)=true
  ·rw [e]; exact ⟨v,rfl⟩
  ·have e':(a==k)=false:=by simpa using e
   rw [e']
   rcases Qm.mp h with h | h
   ·cases h; simp at e
   ·exact kI h
theorem iJ {env:Env} (x:Str):∀ (names:List (Str×NameKind)),
  (names.map fun (n,k)=>if (k==NameKind.free && env.scope.kind==.function && env.kindOf n==some .cell) then (n,NameKind.cell) else (n,k)).lookup x =
   (names.lookup x).map fun k=>if (k==NameKind.free && env.scope.kind==.function && env.kindOf x==some .cell) then NameKind.cell else k
 | []=>rfl
 | (n,k)::r=>by
  have ih:=iJ (env:=env) x r
  rw [Jj]
  by_cases e:(x==n)=true
  ·have en:x=n:=by simpa using e
   subst en
   dsimp only
   by_cases c:(k==NameKind.free && env.scope.kind==.function && env.kindOf x==some .cell)=true
   ·rw [if_pos c,Xa,Xa,e]
    simp only [Xm,c,if_true]
   ·rw [if_neg c,Xa,Xa,e]
    simp only [Xm,c]
    rfl
  ·have e':(x==n)=false:=by simpa using e
   dsimp only
   by_cases c:(k==NameKind.free && env.scope.kind==.function && env.kindOf n==some .cell)=true
   ·rw [if_pos c,Xa,Xa,e']; exact ih
   ·rw [if_neg c,Xa,Xa,e']; exact ih
def aR (X:Cx) (scope:Scope) (N:List Str) (C:Addr) (s0:Shared) (H0:Hp) (fp:List Addr):Cx where
 prog:=X.prog
 w:=X.w
 K:=X.K
 mg:=X.mg
 base:=X.base
 A:=X.A
 N:=N
 s₀:=s0
 H₀:=H0
 env:=compEnvC scope (cY X.env scope.names []) C X.env
 outer:=X.stack
 stack:=X.stack
 ex:=fp
 fn:=fun _=>false
 calm:=X.calm
 pn:=[]
 xe:=fun _ _=>False
def nQ (sc scope:Scope) (own:List Str) (frn:List Str):Bool :=
 scope.kind==.function && scope.names.all (fun y=>y.2 !=.cell) && scope.names.all (fun y=>y.2 !=.local || scope.names.lookup y.1==some .local) &&
 scope.names.all (fun y=>y.2 !=.free || sc.names.lookup y.1==some .cell || sc.names.lookup y.1==some .free) && decide (own++frn).Nodup &&
 own.all (fun x=>scope.names.lookup x==some .local) && frn.all (fun x=>scope.names.lookup x==some .free)
def blk (own:Nat) (fr:List Nat) (σ:St):St:=List.replicate own none++fr.map fun j=>(σ[j]?).join
structure CompOk (X:Cx) (scope:Scope) (own:List Str) (fr:List Nat) (frn:List Str):Prop where
 ck:nQ X.env.scope scope own frn=true
 ix:∀ (k:Nat) (x:Str),frn[k]?=some x->∃ j:Nat,fr[k]?=some j/\X.N[j]?=some x
 len:fr.length=frn.length
section
variable {X:Cx} {scope:Scope} {own frn:List Str} {fr:List Nat}
theorem CompOk.parts (S:CompOk X scope own fr frn):scope.kind=.function/\(∀ y∈scope.names,y.2≠.cell)/\(∀ y∈scope.names,y.2=.local->scope.names.lookup y.1=some .local) /\
  (∀ y∈scope.names,y.2=.free->X.env.scope.names.lookup y.1=some .cell∨X.env.scope.names.lookup y.1=some .free)/\(own++frn).Nodup/\(∀ x∈own,scope.names.lookup x=some .local)/\∀ x∈frn,scope.names.lookup x=some .free:=by
 have h:=S.ck
 unfold nQ at h
 simp only [Jc,Jd,decide_eq_true_eq,Bool.or_eq_true,bne_iff_ne,ne_eq,beq_iff_eq] at h
 obtain ⟨⟨⟨⟨⟨⟨h1,h2⟩,h3⟩,h4⟩,h5⟩,h6⟩,h7⟩:=h
 refine ⟨h1,h2,fun y hy e=>?_,fun y hy e=>?_,h5,h6,h7⟩
 ·rcases h3 y hy with z | z
  ·exact absurd e z
  ·exact z
 ·rcases h4 y hy with (z | z) | z
  ·exact absurd e z
  ·exact .inl z
  ·exact .inr z
theorem yG (S:CompOk X scope own fr frn) (σ:St):(blk own.length fr σ).length=(own++frn).length:=by
 unfold blk
 rw [Qk,Qk,Ji,Qb,S.len]
theorem pP {pins:List (Addr×Obj)} {σ:St} {H:Hp} {s:Shared} {fp:List Addr} {h1:Heap} {tk:Nat} {C D:Addr} {oD:Obj} {m:Str->Option Value} (I:Inv X pins σ H s) (S:CompOk X scope own fr frn)
  (hfp:∀ b∈fp,kC X pins H b) (hlt:∀ b∈fp,b < s.heap.objs.size) (hC:s.heap.objs.size<=C) (hn:h1.Ns C m) (hk:∀ b o,s.heap.get? b=some o->h1.get? b=some o)
  (hD:s.heap.objs.size<=D) (hDC:D≠C) (hoD:h1.get? D=some oD) (hdD:∀ v,oD.data≠.cell v) :
  Inv (aR X scope (own++frn) C s H fp) [(D,oD)] (blk own.length fr σ) H { s with heap:=h1,toks:=tk }:=by
 obtain ⟨p1,p2,p3,p4,p5,p6,p7⟩:=S.parts
 have below:∀ b,b < s.heap.objs.size->b≠C:=fun b hb z=>Jb _ (Qp (z ▸ hb) hC)
 have clsub:∀ x c,(cY X.env scope.names []).lookup x=some c->X.env.cells.lookup x=some c:=fun x c e=>by
  rcases iI _ _ _ _ (fP e) with q | q
  ·cases q
  ·exact q
 have clt:∀ x c,X.env.cells.lookup x=some c->c < s.heap.objs.size:=fun x c e=>by
  obtain ⟨v,q⟩:=I.cell x c e
  exact q.lt
 have nstk:∀ b∈fp,b∉frs X.stack:=fun b hb z=>by
  obtain ⟨_,f1,f2,_⟩:=hfp b hb
  rcases Qm.mp (I.stkSub b z) with e | e
  ·exact f1 e
  ·exact f2 e
 have Dfs:D∉frs X.stack:=fun z=>by
  have q:=I.stkSub D z
  rcases Qm.mp q with e | e
  ·exact Jb _ (Qp (e ▸ I.lt:D < _) hD)
  ·exact I.nofs hD e
 refine ⟨⟨I.ok.mod,p1,I.ok.glob,I.ok.blt,hC,fun x y c e1 e2=>I.ok.inj x y c (clsub x c e1) (clsub y c e2),fun x hx=>?_,fun x c e=>absurd e (by show ¬ (false=true); decide),I.ok.hd,I.ok.frames,.inl rfl,fun b hb=>?_,I.bs,Qz I.ok.bsz I.sz,fun b o e hb=>?_,nstk,I.stack,I.stkFree⟩,
  rfl,I.bare,Un.kept hk,⟨m,hn,fun i x v e1 e2 e3=>?_⟩,fun x c e=>?_,I.hok.fresh hC,fun x c e=>I.freeC x c (clsub x c e),fun p hp=>?_,I.hok.kept hk,yG S σ⟩
 ·-- has
  have hx':(relabel scope X.env).names.lookup x=some .cell∨(relabel scope X.env).names.lookup x=some .free:=hx
  have hl:(relabel scope X.env).names.lookup x=_:=iJ (env:=X.env) x scope.names
  rw [hl] at hx'
  cases e:scope.names.lookup x with
  | none =>
   rw [e] at hx'
   rcases hx' with z | z <;> cases z
  | some k =>
   have hmem:=fP e
   have hkf:k=.free:=by
    rw [e] at hx'
    simp only [Xm,Option.some.injEq] at hx'
    by_cases c:(k==NameKind.free && X.env.scope.kind==.function && X.env.kindOf x==some .cell)=true
    ·simp only [Jc,beq_iff_eq] at c
     exact c.1.1
    ·rw [if_neg c] at hx'
     rcases hx' with z | z
     ·exact absurd z (p2 _ hmem)
     ·exact z
   subst hkf
   obtain ⟨c,hc⟩:=I.ok.has x (p4 _ hmem rfl)
   obtain ⟨c',hc'⟩:=kH (env:=X.env) scope.names [] x (.inr ⟨hmem,c,hc⟩)
   exact kI hc'
 ·-- exf
  refine ⟨below b (hlt b hb),fun x c e=>?_⟩
  exact (hfp b hb).2.2.2.2.1 x c (clsub x c e)
 ·-- noex
  rcases (hfp b hb).2.2.2.1 with z | z
  ·exact I.ok.noex b o e z
  ·exact absurd (Qp (Ql (I.ok.bs b o e).1) z) (Jb _)
 ·-- loc
  show ∃ u,bM v u/\aEX _ _ _ x u
  have e1':(own++frn)[i]?=some x:=e1
  have e2':(blk own.length fr σ)[i]?=some (some v):=e2
  unfold blk at e2'
  by_cases hi:i < own.length
  ·rw [Qs (by simpa using hi),Jp] at e2'
   rw [if_pos hi] at e2'
   cases e2'
  ·rw [Qw (by simpa using hi)] at e2'
   rw [Qw (by omega)] at e1'
   rw [Ji,Qg] at e2'
   obtain ⟨j,hj1,hj2⟩:=S.ix _ _ e1'
   rw [hj1] at e2'
   simp only [Xm,Option.some.injEq] at e2'
   have hσ:σ[j]?=some (some v):=by
    cases q:σ[j]? with
    | none=>rw [q] at e2'; cases e2'
    | some w=>rw [q] at e2'; exact congrArg some e2'
   have hfree:=p7 x (Qe e1')
   have hmem:=fP hfree
   have kx:=p4 _ hmem rfl
   have vis:Vis X.env.scope x:=by
    rcases kx with z | z
    ·exact .inr (.inl z)
    ·exact .inr (.inr z)
   obtain ⟨m0,hn0,hl0⟩:=I.loc
   obtain ⟨u,ru,lk⟩:=hl0 j x v hj2 hσ vis
   refine ⟨u,ru,.inr ⟨?_,?_⟩⟩
   ·show (relabel scope X.env).names.lookup x=some .cell∨(relabel scope X.env).names.lookup x=some .free
    have hl:(relabel scope X.env).names.lookup x=_:=iJ (env:=X.env) x scope.names
    rw [hl,hfree]
    simp only [Xm,Option.some.injEq]
    by_cases c:(NameKind.free==NameKind.free && X.env.scope.kind==.function && X.env.kindOf x==some .cell)=true
    ·rw [if_pos c]; exact .inl rfl
    ·rw [if_neg c]; exact .inr rfl
   ·rcases lk with ⟨kl,_⟩ | ⟨_,c,hc,hcell⟩
    ·have kl':X.env.scope.names.lookup x=some .local:=kl
     rcases kx with z | z <;> (have z':X.env.scope.names.lookup x=_:=z; rw [kl'] at z'; cases z')
    ·obtain ⟨c',hc'⟩:=kH (env:=X.env) scope.names [] x (.inr ⟨hmem,c,hc⟩)
     obtain ⟨c2,hc2⟩:=kI hc'
     have ec:c2=c:=by
      have:=clsub x c2 hc2
      rw [hc] at this
      exact (Option.some.inj this).symm
     subst ec
     obtain ⟨oc,ho,hd⟩:=hcell
     exact ⟨c2,hc2,oc,hk _ _ ho,hd⟩
 ·obtain ⟨v,o,ho,hd⟩:=I.cell x c (clsub x c e)
  exact ⟨v,o,hk _ _ ho,hd⟩
 ·have hp':p∈([]:List (Addr×Obj))++[(D,oD)]:=hp
  simp only [Zb,Qu] at hp'
  subst hp'
  exact ⟨hoD,I.hok.fresh hD,hDC,Dfs,hdD⟩
end
theorem vU {prog:Program} {w:World} {A:Around} {R:Result->Shared->Prop} {s:Shared} {elt target iter:Expr} {ifs:List Expr} {scope:Scope} {pos:Pos} {it acc:Value} {env:Env} (I:Nat->Shared->Prop)
  (turn:∀ n s,I n s->wpAny (model prog w) A (pyNext it) (fun r s₁=>match r with
   | none=>R (.ok .next) s₁
   | some v=>wpAny (model prog w) A (letOwnedTupleGo target it v) (fun _ s₁'=>wpAny (model prog w) A (assign target env v) (fun _ s₂ =>
     wpAny (model prog w) A (forIn ifs true fun c r=>if r=true then do let ok<-isTrue c env (eval c env); pure (ForInStep.yield ok) else pure (ForInStep.yield r)) (fun ok s₃ =>
      if ok=true then wpAny (model prog w) A (eval elt env) (fun x s₄ =>
       wpAny (model prog w) A (call (.builtin "list.append") [acc,x]) (fun _ s₅=>∃ m,m < n/\I m s₅) (fun _ _=>False) s₄) (fun _ _=>False) s₃
      else ∃ m,m < n/\I m s₃) (fun _ _=>False) s₂) (fun _ _=>False) s₁') (fun _ _=>False) s₁) (fun _ _=>False) s)
  (n:Nat) (h:I n s) :
  codeAny (model prog w) A (.compLoop (.ListComp elt [⟨target,iter,ifs,0⟩] scope pos) 0 it acc env) R s:=by
 refine codeAny_loop rfl I (fun n s hI=>?_) n h
 show wpAny _ A ((compTurn (.ListComp elt [⟨target,iter,ifs,0⟩] scope pos) 0 it acc env).onRaise (fun x=>do noteFrame x env; theTreesLotGoes x)) _ _ s
 refine wpAny_noted ?_
 rw [compTurn_list]
 refine wpAny_bind (wpAny_standAt (wpAny_bind (wpAny_mono (turn n s hI) (fun r s₁ h₁=>?_) fun _ _ h'=>h'.elim)))
 cases r with
 | none=>exact wpAny_pure h₁
 | some v =>
  refine wpAny_bind (wpAny_mono h₁ (fun _ s₁' h₁'=>?_) fun _ _ h'=>h'.elim)
  refine wpAny_bind (wpAny_mono h₁' (fun _ s₂ h₂=>wpAny_bind (wpAny_mono h₂ (fun ok s₃ h₃=>?_) fun _ _ h'=>h'.elim)) fun _ _ h'=>h'.elim)
  cases ok with
  | false=>exact wpAny_pure ⟨rfl,h₃⟩
  | true =>
   exact wpAny_bind (wpAny_bind (wpAny_mono h₃ (fun x s₄ h₄=>wpAny_bind (wpAny_mono h₄ (fun _ s₅ h₅=>wpAny_pure (wpAny_pure ⟨rfl,h₅⟩)) fun _ _ h'=>h'.elim)) fun _ _ h'=>h'.elim))
def PF (X:Cx) (ifs:List Expr) (t:TT):Prop :=
 ∀ (pins:List (Addr×Obj)) (s:Shared) (σ:St) (H:Hp) (Q:Bool->Hp->Prop),Inv X pins σ H s->t σ H Q ->
  wpAny (model X.prog X.w) X.A (forIn ifs true fun c r=>if r=true then do let ok<-isTrue c X.env (eval c X.env); pure (ForInStep.yield ok) else pure (ForInStep.yield r)) (TP X pins σ Q) X.xe s
def uG:TT:=fun _ H Q=>Q true H
theorem cA {X:Cx}:PF X [] uG:=fun _ _ _ H _ I h=>wpAny_tests_nil ⟨H,I,h⟩
theorem yH {X:Cx} {c:Expr} {t:TT} (h:PT X c t):PF X [c] t:=fun pins s σ H Q I hq=>wpAny_tests_one (h pins s σ H Q I hq)
def aD8 (own:Nat) (fr:List Nat) (wi:TI) (g:TG) (tt:TT) (te:TE):TE:=fun σ H Q=>wi σ H fun J H1=>∃ W:Nat->Nat->List V->St->Hp->Prop,(∃ m,W 0 m [] (blk own fr σ) H1)/\∀ i m ys σ' H,W i m ys σ' H ->
 (J.stop i H/\∀ p,H p=none->Q (.ref p) (upd H p (.lst ys))) ∨
 (J.go i H/\∃ N:List V->St->Hp->Prop,(∀ ys' σ2 H2,N ys' σ2 H2->∃ m',m' < m/\W (i+1) m' ys' σ2 H2) /\
  ∀ x H',J.yld i H x H'->g x σ' H' fun σ2 H2=>tt σ2 H2 fun b H3=>if b=true then te σ2 H3 fun y H4=>ys.length < sizeLine/\N (ys++[y]) σ2 H4 else N ys σ2 H3)
section
variable {X:Cx} {scope:Scope} {own frn:List Str} {fr:List Nat} {elt tg iter:Expr} {ifs:List Expr} {pos:Pos} {wi:TI} {g:TG} {tt:TT} {te:TE}
theorem Inv.track {pins:List (Addr×Obj)} {σ:St} {H:Hp} {s:Shared} {D:Addr} {ys:List V} {its:Array Value} (I:Inv X pins σ H s) (hD:s.heap.PlainList D its) (hv:bG ys its.toList) (hz:ys.length<=sizeLine) (hn:H D=none) (hL:D≠X.env.locals)
  (h1:X.s₀.heap.objs.size<=D) (h2:∀ x c,X.env.cells.lookup x=some c->c≠D) (h3:∀ p∈X.pn++pins,p.1≠D):Inv X pins σ (upd H D (.lst ys)) s:=by
 have ne:∀ b u,H b=some u->b≠D:=fun b u e z=>by rw [z,hn] at e; cases e
 refine I.step (g':=s.gens) (d':=s.drawn) (t':=s.toks) (h':=s.heap) (ch:=[D]) (fun b hb=>?_) (fun b o _ _ _ e _=>e) (fun b o _ _ _ e _=>⟨o.slots,e⟩) (fun b o hc _ n=>?_) (fun b o _ e=>⟨o,e⟩)
  (fun b xs e=>by rw [aI (ne b _ e)]; exact e) (fun b o u e=>by rw [aI (ne b _ e)]; exact e) (fun b ps e=>⟨#[],by rw [aI (ne b _ e),e]; simp⟩) (fun _ h=>h) (fun b u e=>?_) I.bare
 ·have e:b=D:=by simpa using hb
  subst e
  exact ⟨.inr h1,hL,h2,h3⟩
 ·rw [aI (by simpa using hc)]; exact n
 ·by_cases hb:b=D
  ·subst hb
   rw [aC] at e; cases e
   obtain ⟨n,e⟩:=hD
   exact ⟨hz,its.toList,n,hv,by simpa using e⟩
  ·rw [aI hb] at e
   exact (I.hok b u e).stay (fun c v _ q=>q) (fun c q=>by rw [aI (ne c _ q)]; exact q) fun c xs q=>by rw [aI (ne c _ q)]; exact q
theorem pQ {pins:List (Addr×Obj)} {σ:St} {H2:Hp} {s2:Shared} {it:Addr} {fp:List Addr} {tn:Nat->Heap->Prop} {J:It} {RR:Value->Addr->Result->Shared->Prop} {E:Value->Shared->Prop} {Q:Hp->List V->Prop}
  (S:CompOk X scope own fr frn) (hc:X.calm=true) (I2:Inv X pins σ H2 s2) (T:Turn X.prog X.w X.K tg J fp it tn) (st2:tn 0 s2.heap) (f2:∀ b∈fp,kC X pins H2 b)
  (hg:∀ C s0 H0 fp,PG (aR X scope (own++frn) C s0 H0 fp) tg g) (ht:∀ C s0 H0 fp,PF (aR X scope (own++frn) C s0 H0 fp) ifs tt) (he:∀ C s0 H0 fp,PE (aR X scope (own++frn) C s0 H0 fp) elt te)
  (w:∃ W:Nat->Nat->List V->St->Hp->Prop,(∃ m,W 0 m [] (blk own.length fr σ) H2)/\∀ i m ys σ' H,W i m ys σ' H ->
   (J.stop i H/\Q H ys) ∨
   (J.go i H/\∃ N:List V->St->Hp->Prop,(∀ ys' σ2 H2,N ys' σ2 H2->∃ m',m' < m/\W (i+1) m' ys' σ2 H2) /\
    ∀ x H',J.yld i H x H'->g x σ' H' fun σ2 H2=>tt σ2 H2 fun b H3=>if b=true then te σ2 H3 fun y H4=>ys.length < sizeLine/\N (ys++[y]) σ2 H4 else N ys σ2 H3))
  (hRR:∀ (C D:Addr) (s':Shared) (H':Hp) (ys:List V) (its:Array Value) (m:Str->Option Value),s2.heap.objs.size<=C->s2.heap.objs.size<=D->D≠C->s'.heap.Ns C m->H' C=none->H' D=none->s'.heap.PlainList D its->bG ys its.toList->ys.length<=sizeLine ->
   Inv X pins σ H' s'->Q H' ys->RR (.ref D) C (.ok .next) s') :
  wpAny (model X.prog X.w) X.A (newList []) (fun acc s₃=>wpAny (model X.prog X.w) X.A (newFunctionEnv scope X.env.globals (cY X.env scope.names []) [] X.env.qual none .none (some X.env)) (fun cenv s₄ =>
   codeAny (model X.prog X.w) X.A (.compStart (.ListComp elt [⟨tg,iter,ifs,0⟩] scope pos) 0 (.ref it) acc { cenv with scope:=relabel scope X.env }) (RR acc cenv.locals) s₄) E s₃) E s2:=by
 obtain ⟨p1,p2,p3,p4,p5,p6,p7⟩:=S.parts
 obtain ⟨W,⟨m0,w0⟩,turn⟩:=w
 refine wpAny_newObj_type (wpAny_newFunctionEnv p2 (by intro y hy; simp at hy) (fun h₁ hns₁ hsb₁=>?_) p1)
 dsimp only at hns₁ hsb₁ ⊢
 generalize hH2:s2.heap.push { cls:=.type "list",dict:=none,data:=.seq ([]:List Value).toArray }=HD at hns₁ hsb₁ ⊢
 have hCs:HD.objs.size=s2.heap.objs.size+1:=by rw [<- hH2,Jg]
 have hDC:s2.heap.objs.size≠HD.objs.size:=by omega
 have hCle:s2.heap.objs.size<=HD.objs.size:=by omega
 have below:∀ b,b < s2.heap.objs.size->b≠HD.objs.size/\b≠s2.heap.objs.size:=fun b hb=>⟨by omega,by omega⟩
 have old:∀ b o,s2.heap.get? b=some o->h₁.get? b=some o:=fun b o e=>hsb₁.extBut b o (below b (Ql e)).1 (Qa _ (hH2 ▸ Qa _ e))
 have hacc:h₁.get? s2.heap.objs.size=some { cls:=.type "list",data:=.seq ([]:List Value).toArray }:=hsb₁.extBut _ _ hDC (Qa _ (hH2 ▸ Qi _ rfl))
 have flt:∀ b∈fp,b < s2.heap.objs.size:=fun b hb=>by
  obtain ⟨o,e,_⟩:=T.obj _ _ st2 b hb
  exact Ql e
 generalize hDg:s2.heap.objs.size=D at *
 generalize hCg:HD.objs.size=C at *
 have st3:tn 0 h₁:=T.keep _ _ _ st2 fun b _ o e=>old b o e
 -- facts of the block
 have clsub:∀ x c,(cY X.env scope.names []).lookup x=some c->X.env.cells.lookup x=some c:=fun x c e=>by
  rcases iI _ _ _ _ (fP e) with q | q
  ·cases q
  ·exact q
 have cD:∀ x c,(cY X.env scope.names []).lookup x=some c->c≠D:=fun x c e z=>by
  obtain ⟨v,q⟩:=I2.cell x c (clsub x c e)
  exact Jb _ (Qp q.lt (by rw [hDg,z]; exact Qh _))
 have loop:∀ s₃:Shared,s₃={ s2 with heap:=h₁,toks:=s2.toks+([]:List (Str×Value)).length } ->
   codeAny (model X.prog X.w) X.A (.compLoop (.ListComp elt [⟨tg,iter,ifs,0⟩] scope pos) 0 (.ref it) (.ref D) (compEnvC scope (cY X.env scope.names []) C X.env)) (RR (.ref D) C) s₃:=by
  rintro s₃ rfl
  have I3:Inv (aR X scope (own++frn) C s2 H2 fp) [(D,_)] (blk own.length fr σ) H2 { s2 with heap:=h₁,toks:=s2.toks+([]:List (Str×Value)).length } :=
   pP (m:=fun _=>none) I2 S f2 (by rw [hDg]; exact flt) (by rw [hDg]; exact hCle) (hns₁:h₁.Ns C _) old (by rw [hDg]; exact Qh _) hDC hacc (fun v z=>by cases z)
  have stat:∀ {H':Hp} {pl:List (Addr×Obj)},(∀ p∈pl,p.1=D)->(∀ b∈fp,H' b=none)->∀ b∈fp,kC (aR X scope (own++frn) C s2 H2 fp) pl H' b:=fun {H' pl} hpl hn b hb=>by
   refine ⟨hn b hb,(below b (flt b hb)).1,fun z=>?_,.inl hb,fun x c e=>(f2 b hb).2.2.2.2.1 x c (clsub x c e),fun p hp=>?_⟩
   ·have z':b∈frs X.stack:=z
    rcases Qm.mp (I2.stkSub b z') with e | e
    ·exact (f2 b hb).2.1 e
    ·exact (f2 b hb).2.2.1 e
   ·have hp':p∈pl:=by simpa [aR] using hp
    rw [hpl p hp']
    exact Ne.symm (below b (flt b hb)).2
  refine vU (env:=compEnvC scope (cY X.env scope.names []) C X.env) (fun n s'=>∃ i σ' H' ys its o,Inv (aR X scope (own++frn) C s2 H2 fp) [(D,o)] σ' H' s'/\s'.heap.PlainList D its/\bG ys its.toList/\ys.length<=sizeLine/\tn i s'.heap/\(∀ b∈fp,H' b=none)/\W i n ys σ' H') ?_ m0
   ⟨0,_,H2,[],#[],_,I3,⟨_,hacc⟩,.nil,Jo _,st3,fun b hb=>(f2 b hb).1,w0⟩
  rintro n s5 ⟨i,σ5,H5,ys,its,o,I5,pl5,v5,z5,st5,fr5,w5⟩
  have one:∀ {o:Obj},∀ p∈[(D,o)],p.1=D:=fun p hp=>by
   have e:=Qu.mp hp
   rw [e]
  rcases turn i n ys σ5 H5 w5 with ⟨stop,qn⟩ | ⟨go,N,hN,step⟩
  ·refine wpAny_mono (T.done (aR X scope (own++frn) C s2 H2 fp) rfl rfl rfl hc i _ s5 σ5 H5 (fun _ _=>False) I5 (stat one fr5) st5 stop) (fun r s6 hx9=>?_) fun _ _ z=>z
   obtain ⟨hr,I6⟩:=hx9
   subst hr
   obtain ⟨m6,hn6,_⟩:=I6.loc
   have p6:=I6.pin (D,o) (by simp [aR])
   have p5':=I5.pin (D,o) (by simp [aR])
   have pl6:s6.heap.PlainList D its:=by
    obtain ⟨k,e⟩:=pl5
    have e1:o=_:=Option.some.inj (p5'.1.symm.trans e)
    exact ⟨k,by rw [p6.1]; exact congrArg some e1⟩
   have IX:Inv X pins σ H5 s6:=I2.call' (ch:=fp) I6.os I6.base I6.hok I6.bare fun b hb=>⟨(f2 b hb).2.2.2.1,(f2 b hb).2.1,(f2 b hb).2.2.2.2.1,(f2 b hb).2.2.2.2.2⟩
   exact hRR C D s6 H5 ys its m6 hCle (Qh _) hDC hn6 I6.free p6.2.1 pl6 v5 z5 IX qn
  ·refine wpAny_mono (T.item (aR X scope (own++frn) C s2 H2 fp) rfl rfl rfl hc i _ s5 σ5 H5 (fun _ _=>False) I5 (stat one fr5) st5 go) (fun r s6 hx9=>?_) fun _ _ z=>z
   obtain ⟨u,hr,h6⟩:=hx9
   subst hr
   refine wpAny_mono h6 (fun _ s7 hx9=>?_) fun _ _ z=>z
   obtain ⟨x,H7,I7,r7,y7,st7,fr7⟩:=hx9
   have I7':=I7.pinned (stat one fr7) (T.obj _ _ st7)
   refine wpAny_mono (hg C s2 H2 fp _ s7 σ5 H7 x u _ I7' r7 (step x H7 y7)) (fun _ s8 hx9=>?_) fun _ _ z=>z
   obtain ⟨σ8,H8,I8,q8⟩:=hx9
   refine wpAny_mono (ht C s2 H2 fp _ s8 σ8 H8 _ I8 q8) (fun b s9 hx9=>?_) fun _ _ z=>z
   obtain ⟨H9,I9,q9⟩:=hx9
   -- what stands of the iterator and of the gathered list behind the tests,behind the item
   have keepT:∀ {H':Hp} {s':Shared} {σ':St},Inv (aR X scope (own++frn) C s2 H2 fp) ([(D,o)]++kD fp s7.heap) σ' H' s'->tn (i+1) s'.heap/\(∀ b∈fp,H' b=none)/\s'.heap.PlainList D its/\H' D=none:=fun {H' s' σ'} I'=>by
    refine ⟨T.keep _ _ _ st7 fun b hb o e=>(I'.pin (b,o) (Qt _ (Qt _ (cX hb e)))).1,fun b hb=>?_,?_,?_⟩
    ·obtain ⟨o,e,d⟩:=T.obj _ _ st7 b hb
     exact (I'.pin (b,o) (Qt _ (Qt _ (cX hb e)))).2.1
    ·have p':=I'.pin (D,o) (by simp [aR])
     have p5':=I5.pin (D,o) (by simp [aR])
     obtain ⟨k,e⟩:=pl5
     have e1:o=_:=Option.some.inj (p5'.1.symm.trans e)
     exact ⟨k,by rw [p'.1]; exact congrArg some e1⟩
    ·exact (I'.pin (D,o) (by simp [aR])).2.1
   cases b with
   | false =>
    rw [if_neg Qv] at q9
    rw [if_neg Qv]
    obtain ⟨m',hm,w'⟩:=hN ys σ8 H9 q9
    obtain ⟨t9,fr9,pl9,_⟩:=keepT I9
    exact ⟨m',hm,i+1,σ8,H9,ys,its,o,I9.unpinned,pl9,v5,z5,t9,fr9,w'⟩
   | true =>
    rw [if_pos rfl] at q9
    rw [if_pos rfl]
    refine wpAny_mono (he C s2 H2 fp _ s9 σ8 H9 _ I9 q9) (fun y s10 hx9=>?_) fun _ _ z=>z
    obtain ⟨yv,H10,I10,r10,lt10,q10⟩:=hx9
    obtain ⟨t10,fr10,pl10,hD10⟩:=keepT I10
    have hl:=v5.length
    refine wpAny_list_append_plain pl10 (fun h11 pl11 sb11=>?_) (by rw [<- Array.length_toList,<- hl]; exact Zn lt10)
    obtain ⟨m',hm,w'⟩:=hN _ σ8 H10 q10
    have I10':Inv (aR X scope (own++frn) C s2 H2 fp) [] σ8 H10 s10:=I10.pins_of fun p hp=>by cases hp
    have I11:Inv (aR X scope (own++frn) C s2 H2 fp) [] σ8 H10 { s10 with heap:=h11 } :=
     I10'.turned (t':=s10.toks) (it:=D) (fun b o hb e=>(sb11.2 b hb).trans e) hD10 hDC (.inr (by show s2.heap.objs.size<=D; rw [hDg]; exact Qh _)) cD (fun p hp=>by simp [aR] at hp)
    obtain ⟨k11,e11⟩:=id pl11
    have DfsX:D∉frs X.stack:=fun z=>by
     rcases Qm.mp (I2.stkSub D z) with e | e
     ·exact Jb _ (Qp I2.lt (by rw [hDg,e]; exact Qh _))
     ·exact I2.nofs (by rw [hDg]; exact Qh _) e
    refine ⟨m',hm,i+1,σ8,H10,ys++[yv],its.push y,{ cls:=.type "list",data:=.seq (its.push y) k11 },I11.pins_of fun p hp=>?_,pl11,?_,by rw [Qk]; show ys.length+1<=_; omega,T.keep _ _ _ t10 fun b hb o e=>(sb11.2 b (below b (flt b hb)).2).trans e,fr10,w'⟩
    ·have e:=Qu.mp hp
     subst e
     exact ⟨e11,hD10,hDC,DfsX,fun v z=>by cases z⟩
    ·rw [Array.toList_push]
     exact v5.append (.cons r10 .nil)
 exact codeAny_compStart_list (loop _ rfl) (T.self X.A 0 _ _ _ st3 (loop _ rfl))
theorem CompOk.clo {pins:List (Addr×Obj)} {σ:St} {H:Hp} {s:Shared} (S:CompOk X scope own fr frn) (I:Inv X pins σ H s):closureFor scope X.env=pure (cY X.env scope.names []):=by
 obtain ⟨p1,p2,p3,p4,p5,p6,p7⟩:=S.parts
 exact yF fun y hy e=>I.ok.has y.1 (p4 y hy e)
theorem bR (S:CompOk X scope own fr frn) (hc:X.calm=true) (hi:PI X tg iter wi) (hg:∀ C s0 H0 fp,PG (aR X scope (own++frn) C s0 H0 fp) tg g) (ht:∀ C s0 H0 fp,PF (aR X scope (own++frn) C s0 H0 fp) ifs tt)
  (he:∀ C s0 H0 fp,PE (aR X scope (own++frn) C s0 H0 fp) elt te) (hs:∀ x,foldedSetIterable iter X.env x=pure x:=by intro _; rfl) :
  PE X (.ListComp elt [⟨tg,iter,ifs,0⟩] scope pos) (aD8 own.length fr wi g tt te):=by
 intro pins s σ H Q I h
 obtain ⟨p1,p2,p3,p4,p5,p6,p7⟩:=S.parts
 rw [eval_ListComp]
 refine wpAny_comprehension_free (use:=none) rfl hs (S.clo I) p1 p3 (thn (hi pins s σ H _ I h) fun v s1 h1=>thn h1 fun itv s2 h2=>?_)
 obtain ⟨it,fp,tn,J,H2,e,I2,T,st2,f2,hw⟩:=h2
 subst e
 refine pQ (RR:=fun acc C=>compPost (model X.prog X.w) X.A X.xe none (EP X pins σ Q) acc C) (Q:=fun H ys=>∀ p,H p=none->Q (.ref p) (upd H p (.lst ys))) S hc I2 T st2 f2 hg ht he hw ?_
 intro C D s' H' ys its m hC hD hDC hns hHC hHD pl v z IX q
 have cne:∀ a,s2.heap.objs.size<=a->∀ x c,X.env.cells.lookup x=some c->c≠a:=fun a ha x c e z=>by
  obtain ⟨v,w⟩:=I2.cell x c e
  exact Jb _ (Qp w.lt (by rw [z]; exact ha))
 have pne:∀ a,s2.heap.objs.size<=a->∀ p∈X.pn++pins,p.1≠a:=fun a ha p hp z=>Jb _ (Qp (Ql (I2.pin p hp).1) (by rw [z]; exact ha))
 have lne:∀ a,s2.heap.objs.size<=a->a≠X.env.locals:=fun a ha z=>Jb _ (Qp I2.lt (by rw [<- z]; exact ha))
 refine ⟨m,hns,fun h' hs'=>⟨.ref D,upd H' D (.lst ys),?_,rfl,q D hHD⟩⟩
 have IT:Inv X pins σ (upd H' D (.lst ys)) s':=IX.track pl v z hHD (lne D hD) (Qz I2.sz hD) (cne D hD) (pne D hD)
 exact IT.turned (t':=s'.toks) (it:=C) (fun b o hb e=>(hs'.2 b hb).trans e) (by rw [aI (Ne.symm hDC)]; exact hHC) (lne C hC) (.inr (Qz I2.sz hC)) (cne C hC) (pne C hC)
theorem jL {i:Nat} {y:Str} {py spos:Pos} (S:CompOk X scope own fr frn) (hc:X.calm=true) (hN:X.N.Nodup) (hyi:X.N[i]?=some y) (hx:X.env.scope.names.lookup y=some .local)
  (hsw:swapsWith (.ListComp elt [⟨tg,iter,ifs,0⟩] scope pos) (some (.Name y py)) spos.line X.env=pure true)
  (hi:PI X tg iter wi) (hg:∀ C s0 H0 fp,PG (aR X scope (own++frn) C s0 H0 fp) tg g) (ht:∀ C s0 H0 fp,PF (aR X scope (own++frn) C s0 H0 fp) ifs tt)
  (he:∀ C s0 H0 fp,PE (aR X scope (own++frn) C s0 H0 fp) elt te) (hs:∀ x,foldedSetIterable iter X.env x=pure x:=by intro _; rfl) :
  PS X (.Assign [.Name y py] (.ListComp elt [⟨tg,iter,ifs,0⟩] scope pos) spos) (aEn (aD8 own.length fr wi g tt te) (sS i)):=by
 intro pins s σ H D I h
 obtain ⟨p1,p2,p3,p4,p5,p6,p7⟩:=S.parts
 rw [exec_Assign_Name_used _ _ _ _ hsw]
 refine wpAny_bind (wpAny_standAt (wpAny_bind ?_))
 show wpAny _ X.A (do let _<-comprehension (.ListComp elt [⟨tg,iter,ifs,0⟩] scope pos) scope X.env _ (newList []) false (eval iter X.env) (some (assign (.Name y py) X.env))) _ _ s
 refine wpAny_bind (wpAny_mono (wpAny_comprehension_free (use:=some (assign (.Name y py) X.env)) (Q:=fun _ s'=>SP X pins D .next s') rfl hs (S.clo I) p1 p3 (thn (hi pins s σ H _ I h) fun v s1 h1=>thn h1 fun itv s2 h2=>?_))
  (fun _ s' hq=>wpAny_pure (wpAny_pure hq)) fun _ _ e=>e)
 obtain ⟨it,fp,tn,J,H2,e,I2,T,st2,f2,hw⟩:=h2
 subst e
 refine pQ (RR:=fun acc C=>compPost (model X.prog X.w) X.A X.xe (some (assign (.Name y py) X.env)) (fun _ s'=>SP X pins D .next s') acc C) (Q:=fun H ys=>∀ p,H p=none->D.nx (σ.set i (some (.ref p))) (upd H p (.lst ys))) S hc I2 T st2 f2 hg ht he hw ?_
 intro C L s' H' ys its m hC hL hLC hns hHC hHL pl v z IX q
 have cne:∀ a,s2.heap.objs.size<=a->∀ x c,X.env.cells.lookup x=some c->c≠a:=fun a ha x c e z=>by
  obtain ⟨v,w⟩:=I2.cell x c e
  exact Jb _ (Qp w.lt (by rw [z]; exact ha))
 have pne:∀ a,s2.heap.objs.size<=a->∀ p∈X.pn++pins,p.1≠a:=fun a ha p hp z=>Jb _ (Qp (Ql (I2.pin p hp).1) (by rw [z]; exact ha))
 have lne:∀ a,s2.heap.objs.size<=a->a≠X.env.locals:=fun a ha z=>Jb _ (Qp I2.lt (by rw [<- z]; exact ha))
 have IT:Inv X pins σ (upd H' L (.lst ys)) s':=IX.track pl v z hHL (lne L hL) (Qz I2.sz hL) (cne L hL) (pne L hL)
 show wpAny _ _ (assign (.Name y py) X.env (.ref L)) _ _ s'
 refine wpAny_assign_Name (sR IT hN hyi (.inl hx) (v:=.ref L) rfl (fun s'' I'' hch=>?_) (.inr hx))
 obtain ⟨a,sb,ha⟩:=hch
 have hCa:C≠a:=by
  rcases ha with e | e
  ·rw [e]; exact lne C hC
  ·exact Ne.symm (cne C hC y a e)
 refine ⟨m,hns.sameBut sb hCa,fun h' hs'=>⟨σ.set i (some (.ref L)),upd H' L (.lst ys),?_,q L hHL⟩⟩
 exact I''.turned (t':=s''.toks) (it:=C) (fun b o hb e=>(hs'.2 b hb).trans e) (by rw [aI (Ne.symm hLC)]; exact hHC) (lne C hC) (.inr (Qz I2.sz hC)) (cne C hC) (pne C hC)
end
inductive Kd where
 | int | bl | non | str | tup | lst | dct
 deriving DecidableEq
def KdV (K:PySem.W.Frag) (H:Hp):V->Kd->Prop
 | .int _,k=>k=.int
 | .bl _,k=>k=.bl
 | .non,k=>k=.non
 | .str _,k=>k=.str
 | .ref p,k=>(k=.lst/\∃ xs,SqL K H p xs)∨(k=.tup/\∃ xs,SqT K H p xs)∨(k=.dct/\∃ kvs,H p=some (.dK kvs))
 | _,_=>False
section
variable {X:Cx}
theorem uH {pins:List (Addr×Obj)} {σ:St} {H:Hp} {s:Shared} {p:Addr} {kvs:List (Key×V)} (I:Inv X pins σ H s) (h:H p=some (.dK kvs)):∃ o,s.heap.get? p=some o/\o.cls=.type "dict" := by
 obtain ⟨_,_,vs,_,o,es,ep,e,ex,_⟩:=I.hok p _ h
 exact ⟨o,e,ex.1⟩
theorem mH:eI X (.builtin "isinstance") (fun xs H Q=>∃ x k,xs = [x,.ty "int"]/\KdV X.K H x k/\Q (.bl (decide (k=.int∨k=.bl))) H):=by
 intro pins s σ H xs us Q I r h
 obtain ⟨x,k,rfl,hk,q⟩:=h
 obtain ⟨u,t,rfl,rx,rt⟩:=kE r
 cases rt
 cases x with
 | int i=>cases hk; obtain ⟨t,rfl⟩:=rx; exact IsiPair.int_int ⟨.bl true,H,I,rfl,q⟩
 | bl b=>cases hk; cases rx; exact IsiPair.bool_int ⟨.bl true,H,I,rfl,q⟩
 | non=>cases hk; cases rx; exact IsiPair.NoneType_int ⟨.bl false,H,I.tok _,rfl,q⟩
 | str y=>cases hk; obtain ⟨t,rfl⟩:=rx; exact IsiPair.str_int ⟨.bl false,H,I.tok _,rfl,q⟩
 | ref p =>
  cases rx
  rcases hk with ⟨rfl,xs,hx⟩ | ⟨rfl,xs,hx⟩ | ⟨rfl,kvs,hx⟩
  ·obtain ⟨its,r',pl,hz⟩:=I.list hx; exact IsiPair.isList_int pl.isList (fun _ _ e=>e) ⟨.bl false,H,I.tok _,rfl,q⟩
  ·obtain ⟨its,r',pl,hz⟩:=I.tuple hx; exact IsiPair.isTuple_int pl (fun _ _ e=>e) ⟨.bl false,H,I.tok _,rfl,q⟩
  ·obtain ⟨o,e,c⟩:=uH I hx; exact IsiPair.dict_int e c ⟨.bl false,H,I.tok _,rfl,q⟩
 | _=>exact hk.elim
theorem lK:eI X (.builtin "isinstance") (fun xs H Q=>∃ x k,xs = [x,.ty "bool"]/\KdV X.K H x k/\Q (.bl (decide (k=.bl))) H):=by
 intro pins s σ H xs us Q I r h
 obtain ⟨x,k,rfl,hk,q⟩:=h
 obtain ⟨u,t,rfl,rx,rt⟩:=kE r
 cases rt
 cases x with
 | int i=>cases hk; obtain ⟨t,rfl⟩:=rx; exact IsiPair.int_bool ⟨.bl false,H,I.tok _,rfl,q⟩
 | bl b=>cases hk; cases rx; exact IsiPair.bool_bool ⟨.bl true,H,I,rfl,q⟩
 | non=>cases hk; cases rx; exact IsiPair.NoneType_bool ⟨.bl false,H,I.tok _,rfl,q⟩
 | str y=>cases hk; obtain ⟨t,rfl⟩:=rx; exact IsiPair.str_bool ⟨.bl false,H,I.tok _,rfl,q⟩
 | ref p =>
  cases rx
  rcases hk with ⟨rfl,xs,hx⟩ | ⟨rfl,xs,hx⟩ | ⟨rfl,kvs,hx⟩
  ·obtain ⟨its,r',pl,hz⟩:=I.list hx; exact IsiPair.isList_bool pl.isList (fun _ _ e=>e) ⟨.bl false,H,I.tok _,rfl,q⟩
  ·obtain ⟨its,r',pl,hz⟩:=I.tuple hx; exact IsiPair.isTuple_bool pl (fun _ _ e=>e) ⟨.bl false,H,I.tok _,rfl,q⟩
  ·obtain ⟨o,e,c⟩:=uH I hx; exact IsiPair.dict_bool e c ⟨.bl false,H,I.tok _,rfl,q⟩
 | _=>exact hk.elim
theorem bN:eI X (.builtin "isinstance") (fun xs H Q=>∃ x k,xs = [x,.ty "tuple"]/\KdV X.K H x k/\Q (.bl (decide (k=.tup))) H):=by
 intro pins s σ H xs us Q I r h
 obtain ⟨x,k,rfl,hk,q⟩:=h
 obtain ⟨u,t,rfl,rx,rt⟩:=kE r
 cases rt
 cases x with
 | int i=>cases hk; obtain ⟨t,rfl⟩:=rx; exact IsiPair.int_tuple ⟨.bl false,H,I.tok _,rfl,q⟩
 | bl b=>cases hk; cases rx; exact IsiPair.bool_tuple ⟨.bl false,H,I.tok _,rfl,q⟩
 | non=>cases hk; cases rx; exact IsiPair.NoneType_tuple ⟨.bl false,H,I.tok _,rfl,q⟩
 | str y=>cases hk; obtain ⟨t,rfl⟩:=rx; exact IsiPair.str_tuple ⟨.bl false,H,I.tok _,rfl,q⟩
 | ref p =>
  cases rx
  rcases hk with ⟨rfl,xs,hx⟩ | ⟨rfl,xs,hx⟩ | ⟨rfl,kvs,hx⟩
  ·obtain ⟨its,r',pl,hz⟩:=I.list hx; exact IsiPair.isList_tuple pl.isList (fun _ _ e=>e) ⟨.bl false,H,I.tok _,rfl,q⟩
  ·obtain ⟨its,r',pl,hz⟩:=I.tuple hx; exact IsiPair.isTuple_tuple pl (fun _ _ e=>e) ⟨.bl true,H,I,rfl,q⟩
  ·obtain ⟨o,e,c⟩:=uH I hx; exact IsiPair.dict_tuple e c ⟨.bl false,H,I.tok _,rfl,q⟩
 | _=>exact hk.elim
theorem sA:eI X (.builtin "isinstance") (fun xs H Q=>∃ x k,xs = [x,.ty "list"]/\KdV X.K H x k/\Q (.bl (decide (k=.lst))) H):=by
 intro pins s σ H xs us Q I r h
 obtain ⟨x,k,rfl,hk,q⟩:=h
 obtain ⟨u,t,rfl,rx,rt⟩:=kE r
 cases rt
 cases x with
 | int i=>cases hk; obtain ⟨t,rfl⟩:=rx; exact IsiPair.int_list ⟨.bl false,H,I.tok _,rfl,q⟩
 | bl b=>cases hk; cases rx; exact IsiPair.bool_list ⟨.bl false,H,I.tok _,rfl,q⟩
 | non=>cases hk; cases rx; exact IsiPair.NoneType_list ⟨.bl false,H,I.tok _,rfl,q⟩
 | str y=>cases hk; obtain ⟨t,rfl⟩:=rx; exact IsiPair.str_list ⟨.bl false,H,I.tok _,rfl,q⟩
 | ref p =>
  cases rx
  rcases hk with ⟨rfl,xs,hx⟩ | ⟨rfl,xs,hx⟩ | ⟨rfl,kvs,hx⟩
  ·obtain ⟨its,r',pl,hz⟩:=I.list hx; exact IsiPair.isList_list pl.isList (fun _ _ e=>e) ⟨.bl true,H,I,rfl,q⟩
  ·obtain ⟨its,r',pl,hz⟩:=I.tuple hx; exact IsiPair.isTuple_list pl (fun _ _ e=>e) ⟨.bl false,H,I.tok _,rfl,q⟩
  ·obtain ⟨o,e,c⟩:=uH I hx; exact IsiPair.dict_list e c ⟨.bl false,H,I.tok _,rfl,q⟩
 | _=>exact hk.elim
theorem aAX (bs:List Bool) (tr:Nat->Bool) (h:∀ i b,bs[i]?=some b->tr i=b):(List.range bs.length).all tr=bs.all id:=by
 rw [Xc,Jd,Jd]
 constructor
 ·intro q b hb
  obtain ⟨i,hi⟩:=List.getElem?_of_mem hb
  have:=q i (Jr.mpr (Qd.mp hi).1)
  rw [h i b hi] at this
  exact this
 ·intro q i hi
  have hi':=Jr.mp hi
  have e:bs[i]?=some bs[i]:=Qc hi'
  rw [h i _ e]
  exact q _ (Xg hi')
theorem eN (hc:X.calm=true):eI X (.builtin "all") (fun xs H Q=>∃ (p:Addr) (bs:List Bool),xs = [.ref p]/\SqL X.K H p (bs.map V.bl)/\Q (.bl (bs.all id)) H):=by
 intro pins s σ H xs us Q I r h
 obtain ⟨p,bs,rfl,hx,q⟩:=h
 obtain ⟨u,rfl,rx⟩:=gB r
 cases rx
 obtain ⟨its,rv,pl,hz⟩:=I.list hx
 have hl:=rv.length
 rw [Qb] at hl
 have hlt:p < s.heap.objs.size:=by obtain ⟨o,n,e,_⟩:=pl; exact Ql e
 refine call_all_walk (wpAny_pyIter_list pl.isList ?_)
 refine ⟨s.heap.objs.size,_,_,_,_,_,fun i=>(bs[i]?).getD false,rfl,Walks.list (A:=X.A.in1) (I.ok.hd hc) s.heap.objs.size p (Je hlt) its.toArray,⟨⟨_,Qi _ rfl,rfl,rfl⟩,pl.isList.push _⟩,?_,fun h' tk hk=>?_⟩
 ·intro i v s' Q' E' hP hQ'
  have hP':its[i]?=some v:=by simpa using hP
  have hi:i < bs.length:=by rw [hl]; exact (Qd.mp hP').1
  obtain ⟨w,hw,rw'⟩:=rv.get (i:=i) (x:=.bl bs[i]) (by rw [Qg,Qc hi]; rfl)
  rw [hw] at hP'
  cases hP'
  cases rw'
  have e:(bs[i]?).getD false=bs[i]:=by rw [Qc hi]; rfl
  rw [<- e]
  exact wpAny_truthy_bool hQ'
 ·have e:(List.range its.toArray.size).all (fun i=>(bs[i]?).getD false)=bs.all id:=by
   rw [Qj,<- hl]
   exact aAX bs _ fun i b hb=>by rw [hb]; rfl
  rw [e]
  refine ⟨.bl _,H,I.kept (h':=h') fun b o e=>hk b o ?_ (Qa _ e),rfl,q⟩
  intro z
  have z':b=s.heap.objs.size:=by simpa using z
  exact Jb _ (z' ▸ Ql e)
def aM (ns:List Int):Int:=ns.foldr (· + ·) 0
theorem gX (ns:List Int) (val:Nat->Int) (h:∀ (i:Nat) (v:Int),ns[i]?=some v->val i=v):∀ j,j<=ns.length->preSum val j=aM (ns.take j)
 | 0,_=>rfl
 | j+1,hj=>by
  have ih:=gX ns val h j (by omega)
  have e:ns[j]?=some ns[j]:=Qc (by omega)
  show preSum val j+val j=_
  rw [ih,h j _ e,Jh,e]
  unfold aM
  rw [List.foldr_append]
  simp only [Option.toList_some,Yg,List.foldr_nil,Int.add_zero]
  generalize ns[j]=v
  induction (List.take j ns) with
  | nil=>simp
  | cons a l ih2=>simp only [Yg]; omega
theorem pR (hc:X.calm=true):eI X (.builtin "sum") (fun xs H Q=>∃ (p:Addr) (ns:List Int),xs = [.ref p]/\SqL X.K H p (ns.map V.int)/\(∀ n∈ns,0<=n/\n < 1000000)/\ns.length<=1000000/\Q (.int (aM ns)) H):=by
 intro pins s σ H xs us Q I r h
 obtain ⟨p,ns,rfl,hx,hb,hlen,q⟩:=h
 obtain ⟨u,rfl,rx⟩:=gB r
 cases rx
 obtain ⟨its,rv,pl,hz⟩:=I.list hx
 have hl:=rv.length
 rw [Qb] at hl
 have hlt:p < s.heap.objs.size:=by obtain ⟨o,n,e,_⟩:=pl; exact Ql e
 have hval:∀ (i:Nat) (v:Int),ns[i]?=some v->(ns[i]?).getD 0=v:=fun i v e=>by rw [e]; rfl
 have bnd:∀ (ms:List Int),(∀ n∈ms,0<=n/\n < 1000000)->0<=aM ms/\aM ms<=ms.length*1000000:=fun ms=>by
  induction ms with
  | nil=>intro _; exact ⟨Jq _,Jq _⟩
  | cons a l ih =>
   intro hh
   have h1:=hh a Qq
   have h2:=ih fun n hn=>hh n (Qr _ hn)
   have e:aM (a::l)=a+aM l:=rfl
   rw [e,Jv]
   rw [Xn]
   omega
 refine call_sum_walk (wpAny_pyIter_list pl.isList ?_)
 refine ⟨s.heap.objs.size,_,_,_,_,_,fun i=>(ns[i]?).getD 0,rfl,Walks.list (A:=X.A.in1) (I.ok.hd hc) s.heap.objs.size p (Je hlt) its.toArray,⟨⟨_,Qi _ rfl,rfl,rfl⟩,pl.isList.push _⟩,?_,?_,?_,fun h' tk t' hk=>?_⟩
 ·intro b hb'
  rw [Jg]
  rcases Qm.mp hb' with e | e
  ·rw [e]; exact Zj _
  ·have e':b=p:=by simpa using e
   rw [e']; exact Jy hlt
 ·intro i v hP
  have hP':its[i]?=some v:=by simpa using hP
  have hi:i < ns.length:=by rw [hl]; exact (Qd.mp hP').1
  obtain ⟨w,hw,rw'⟩:=rv.get (i:=i) (x:=.int ns[i]) (by rw [Qg,Qc hi]; rfl)
  rw [hw] at hP'
  cases hP'
  obtain ⟨t,rfl⟩:=rw'
  exact ⟨t,by show Value.int ns[i] t=Value.int ((ns[i]?).getD 0) t; rw [Qc hi]; rfl⟩
 ·intro j hj
  have hj':j < ns.length:=by rw [hl]; simpa using hj
  have e:ns[j]?=some ns[j]:=Qc hj'
  have h1:=hb _ (Xg hj')
  have h2:=bnd (ns.take (j+1)) fun n hn=>hb n (Xb hn)
  rw [gX ns _ hval (j+1) (by omega)]
  have h3:(ns.take (j+1)).length<=1000000:=by rw [Ja]; omega
  unfold InLong
  have e5:(fun i:Nat=>(ns[i]?).getD 0) j=ns[j]:=by show (ns[j]?).getD 0=_; rw [e]; rfl
  rw [e5]
  have h4:((ns.take (j+1)).length:Int)*1000000<=1000000*1000000:=by omega
  omega
 ·have e:preSum (fun i=>(ns[i]?).getD 0) its.toArray.size=aM ns:=by
   rw [Qj,<- hl,gX ns _ hval ns.length (Qh _),Js]
  rw [e]
  refine ⟨.int _,H,I.kept (h':=h') fun b o e=>hk b o ?_ (Qa _ e),⟨_,rfl⟩,q⟩
  intro z
  have z':b=s.heap.objs.size:=by simpa using z
  exact Jb _ (z' ▸ Ql e)
end
mutual
def Den (K:PySem.W.Frag) (H:Hp):PyData->V->Prop
 | .none,v=>v=.non
 | .bool b,v=>v=.bl b
 | .int i,v=>v=.int i
 | .str x,v=>v=.str x
 | .list ds,v=>∃ a xs,v=.ref a/\SqL K H a xs/\bA K H ds xs
 | .tuple ds,v=>∃ a xs,v=.ref a/\SqT K H a xs/\bA K H ds xs
 | .dict kvs,v=>kvs = []/\∃ a,v=.ref a/\H a=some (.dK [])
def bA (K:PySem.W.Frag) (H:Hp):List PyData->List V->Prop
 | [],xs=>xs = []
 | d::ds,xs=>∃ x r,xs=x::r/\Den K H d x/\bA K H ds r
end
theorem aE.rd {H H':Hp} {a:Addr} {u:HO} (e:aE H H') (h:Rd H a u):Rd H' a u:=by
 rcases h with h | ⟨o,h⟩
 ·exact .inl (e a u h)
 ·exact .inr ⟨o,e a _ h⟩
theorem aE.seqL {K:PySem.W.Frag} {H H':Hp} {a:Addr} {xs:List V} (e:aE H H') (h:SqL K H a xs):SqL K H' a xs:=by
 rcases h with h | h
 ·exact .inl (e.rd h)
 ·exact .inr h
theorem aE.seqT {K:PySem.W.Frag} {H H':Hp} {a:Addr} {xs:List V} (e:aE H H') (h:SqT K H a xs):SqT K H' a xs:=by
 rcases h with h | h
 ·exact .inl (e.rd h)
 ·exact .inr h
theorem aE.new {H:Hp} {p:Addr} {o:HO} (h:H p=none):aE H (upd H p o):=fun b u e=>by rw [aI (gK e h)]; exact e
mutual
theorem aE.den {K:PySem.W.Frag} {H H':Hp} (e:aE H H'):∀ (d:PyData) (v:V),Den K H d v->Den K H' d v
 | .none,v,h=>by unfold Den at h ⊢; exact h
 | .bool b,v,h=>by unfold Den at h ⊢; exact h
 | .int i,v,h=>by unfold Den at h ⊢; exact h
 | .str x,v,h=>by unfold Den at h ⊢; exact h
 | .list ds,v,h=>by unfold Den at h ⊢; obtain ⟨a,xs,h1,h2,h3⟩:=h; exact ⟨a,xs,h1,e.seqL h2,aE.denAll e ds xs h3⟩
 | .tuple ds,v,h=>by unfold Den at h ⊢; obtain ⟨a,xs,h1,h2,h3⟩:=h; exact ⟨a,xs,h1,e.seqT h2,aE.denAll e ds xs h3⟩
 | .dict kvs,v,h=>by unfold Den at h ⊢; obtain ⟨h1,a,h2,h3⟩:=h; exact ⟨h1,a,h2,e a _ h3⟩
theorem aE.denAll {K:PySem.W.Frag} {H H':Hp} (e:aE H H'):∀ (ds:List PyData) (xs:List V),bA K H ds xs->bA K H' ds xs
 | [],xs,h=>by unfold bA at h ⊢; exact h
 | d::ds,xs,h=>by unfold bA at h ⊢; obtain ⟨x,r,h1,h2,h3⟩:=h; exact ⟨x,r,h1,aE.den e d x h2,aE.denAll e ds r h3⟩
end
section
variable {K:PySem.W.Frag} {H:Hp}
theorem eJ {i:Int} {v:V}:Den K H (.int i) v↔v=.int i:=by unfold Den; exact Iff.rfl
theorem vV {b:Bool} {v:V}:Den K H (.bool b) v↔v=.bl b:=by unfold Den; exact Iff.rfl
theorem vW {v:V}:Den K H .none v↔v=.non:=by unfold Den; exact Iff.rfl
theorem aAd {x:Str} {v:V}:Den K H (.str x) v↔v=.str x:=by unfold Den; exact Iff.rfl
theorem pS {ds:List PyData} {v:V}:Den K H (.list ds) v↔∃ a xs,v=.ref a/\SqL K H a xs/\bA K H ds xs:=by
 constructor
 ·intro h; unfold Den at h; exact h
 ·intro h; unfold Den; exact h
theorem bH {ds:List PyData} {v:V}:Den K H (.tuple ds) v↔∃ a xs,v=.ref a/\SqT K H a xs/\bA K H ds xs:=by
 constructor
 ·intro h; unfold Den at h; exact h
 ·intro h; unfold Den; exact h
theorem aBV {kvs:List (PyData×PyData)} {v:V}:Den K H (.dict kvs) v↔kvs = []/\∃ a,v=.ref a/\H a=some (.dK []):=by
 constructor
 ·intro h; unfold Den at h; exact h
 ·intro h; unfold Den; exact h
theorem bD {xs:List V}:bA K H [] xs↔xs = []:=by unfold bA; exact Iff.rfl
theorem aX {d:PyData} {ds:List PyData} {xs:List V}:bA K H (d::ds) xs↔∃ x r,xs=x::r/\Den K H d x/\bA K H ds r:=by
 constructor
 ·intro h; unfold bA at h; exact h
 ·intro h; unfold bA; exact h
theorem aN:∀ {ds:List PyData} {xs:List V},bA K H ds xs->xs.length=ds.length
 | [],xs,h=>by rw [bD.mp h]; rfl
 | d::ds,xs,h=>by
  obtain ⟨x,r,rfl,_,h3⟩:=aX.mp h
  rw [Jv,Jv,aN h3]
theorem iK:∀ {ds:List PyData} {xs:List V} {i:Nat} {d:PyData},bA K H ds xs->ds[i]?=some d->∃ x,xs[i]?=some x/\Den K H d x
 | [],_,_,_,_,e=>by simp at e
 | d::ds,xs,0,d',h,e=>by
  obtain ⟨x,r,rfl,h2,_⟩:=aX.mp h
  simp at e; subst e
  exact ⟨x,rfl,h2⟩
 | d::ds,xs,i+1,d',h,e=>by
  obtain ⟨x,r,rfl,_,h3⟩:=aX.mp h
  obtain ⟨y,h4,h5⟩:=iK (i:=i) (d:=d') h3 (by simpa using e)
  exact ⟨y,by simpa using h4,h5⟩
theorem cC {ds:List PyData} {xs:List V} {i:Nat} {x:V} (h:bA K H ds xs) (e:xs[i]?=some x):∃ d,ds[i]?=some d/\Den K H d x:=by
 have hl:=aN h
 have hi:i < ds.length:=by rw [<- hl]; exact (Qd.mp e).1
 obtain ⟨y,h1,h2⟩:=iK h (Qc hi)
 rw [e] at h1; cases h1
 exact ⟨_,Qc hi,h2⟩
theorem eW:∀ {ds es:List PyData} {xs ys:List V},bA K H ds xs->bA K H es ys->bA K H (ds++es) (xs++ys)
 | [],es,xs,ys,h,h'=>by rw [bD.mp h]; exact h'
 | d::ds,es,xs,ys,h,h'=>by
  obtain ⟨x,r,rfl,h2,h3⟩:=aX.mp h
  exact aX.mpr ⟨x,r++ys,rfl,h2,eW h3 h'⟩
theorem fQ:∀ {ns:List Int} {xs:List V},bA K H (ns.map PyData.int) xs↔xs=ns.map V.int
 | [],xs=>bD
 | n::ns,xs=>by
  rw [Jj,aX]
  constructor
  ·rintro ⟨x,r,rfl,h2,h3⟩
   rw [eJ.mp h2,fQ.mp h3]
   rfl
  ·intro e
   exact ⟨_,_,e,eJ.mpr rfl,fQ.mpr rfl⟩
theorem aP {ns:List Int} {v:V}:Den K H (.tuple (ns.map .int)) v↔∃ a,v=.ref a/\SqT K H a (ns.map V.int):=by
 rw [bH]
 constructor
 ·rintro ⟨a,xs,rfl,h1,h2⟩
  rw [fQ.mp h2] at h1
  exact ⟨a,rfl,h1⟩
 ·rintro ⟨a,rfl,h⟩
  exact ⟨a,_,rfl,h,fQ.mpr rfl⟩
theorem iF {ns:List Int} {v:V}:Den K H (.list (ns.map .int)) v↔∃ a,v=.ref a/\SqL K H a (ns.map V.int):=by
 rw [pS]
 constructor
 ·rintro ⟨a,xs,rfl,h1,h2⟩
  rw [fQ.mp h2] at h1
  exact ⟨a,rfl,h1⟩
 ·rintro ⟨a,rfl,h⟩
  exact ⟨a,_,rfl,h,fQ.mpr rfl⟩
def jY:PyData->Kd
 | .none=>.non | .bool _=>.bl | .int _=>.int | .str _=>.str | .list _=>.lst | .tuple _=>.tup | .dict _=>.dct
theorem Den.kd {d:PyData} {v:V} (h:Den K H d v):KdV K H v (jY d):=by
 cases d with
 | none=>rw [vW.mp h]; rfl
 | bool b=>rw [vV.mp h]; rfl
 | int i=>rw [eJ.mp h]; rfl
 | str x=>rw [aAd.mp h]; rfl
 | list ds=>obtain ⟨a,xs,rfl,h1,_⟩:=pS.mp h; exact .inl ⟨rfl,xs,h1⟩
 | tuple ds=>obtain ⟨a,xs,rfl,h1,_⟩:=bH.mp h; exact .inr (.inl ⟨rfl,xs,h1⟩)
 | dict kvs=>obtain ⟨_,a,rfl,h1⟩:=aBV.mp h; exact .inr (.inr ⟨rfl,[],h1⟩)
end
section
variable {X:Cx} {pins:List (Addr×Obj)} {σ:St} {H:Hp} {s:Shared}
mutual
def hU:PyData->Bool
 | .dict _=>false
 | .list ds=>jM ds
 | .tuple ds=>jM ds
 | _=>true
def jM:List PyData->Bool
 | []=>true
 | d::ds=>hU d && jM ds
end
mutual
theorem Den.reads (I:Inv X pins σ H s):∀ (d:PyData) (v:V) (u:Value),hU d=true->Den X.K H d v->bM v u->∃ as,Reads s.heap u d as
 | .none,v,u,_,h,r=>by rw [vW.mp h] at r; cases r; exact ⟨_,.none⟩
 | .bool b,v,u,_,h,r=>by rw [vV.mp h] at r; cases r; exact ⟨_,.bool b⟩
 | .int i,v,u,_,h,r=>by rw [eJ.mp h] at r; obtain ⟨t,rfl⟩:=r; exact ⟨_,.int i t⟩
 | .str x,v,u,_,h,r=>by rw [aAd.mp h] at r; obtain ⟨t,rfl⟩:=r; exact ⟨_,.str x t⟩
 | .list ds,v,u,hn,h,r=>by
  obtain ⟨a,xs,rfl,h1,h2⟩:=pS.mp h
  cases r
  obtain ⟨its,rv,⟨o,n,e,c,_,d⟩,_⟩:=I.list h1
  obtain ⟨as,ra⟩:=bA.reads I ds xs its (by unfold hU at hn; exact hn) h2 rv
  exact ⟨_,.list e c d (by simpa using ra)⟩
 | .tuple ds,v,u,hn,h,r=>by
  obtain ⟨a,xs,rfl,h1,h2⟩:=bH.mp h
  cases r
  obtain ⟨its,rv,⟨o,e,c,n,d⟩,_⟩:=I.tuple h1
  obtain ⟨as,ra⟩:=bA.reads I ds xs its (by unfold hU at hn; exact hn) h2 rv
  exact ⟨_,.tuple e c d (by simpa using ra)⟩
 | .dict kvs,v,u,hn,_,_=>by unfold hU at hn; cases hn
theorem bA.reads (I:Inv X pins σ H s):∀ (ds:List PyData) (xs:List V) (us:List Value),jM ds=true->bA X.K H ds xs->bG xs us->∃ as,ReadsAll s.heap us ds as
 | [],xs,us,_,h,r=>by rw [bD.mp h] at r; cases r; exact ⟨_,.nil⟩
 | d::ds,xs,us,hn,h,r=>by
  obtain ⟨x,rr,rfl,h2,h3⟩:=aX.mp h
  unfold jM at hn
  rw [Jc] at hn
  cases r with
  | cons r1 r2 =>
   obtain ⟨as,ra⟩:=Den.reads I d x _ hn.1 h2 r1
   obtain ⟨bs,rb⟩:=bA.reads I ds rr _ hn.2 h3 r2
   exact ⟨_,.cons ra rb⟩
end
theorem aEA (hu:X.A.units+64 < cLine):OpR X (compareOp .Eq) (fun x y H Q=>∃ d e,Den X.K H d x/\Den X.K H e y/\hU d=true/\hU e=true/\SeqAt.shaped d=true/\SeqAt.shaped e=true/\Q (.bl (PyData.eqv d e)) H):=by
 intro pins s σ H x y v u Q I rx ry h
 obtain ⟨d,e,hd,he,n1,n2,s1,s2,q⟩:=h
 obtain ⟨as,ra⟩:=Den.reads I d x v n1 hd rx
 obtain ⟨bs,rb⟩:=Den.reads I e y u n2 he ry
 exact eq_dataH ra rb s1 s2 hu ⟨.bl _,H,I,rfl,q⟩
theorem aBW (hu:X.A.units+64 < cLine):OpR X (compareOp .NotEq) (fun x y H Q=>∃ d e,Den X.K H d x/\Den X.K H e y/\hU d=true/\hU e=true/\SeqAt.shaped d=true/\SeqAt.shaped e=true/\Q (.bl (!PyData.eqv d e)) H):=by
 intro pins s σ H x y v u Q I rx ry h
 obtain ⟨d,e,hd,he,n1,n2,s1,s2,q⟩:=h
 obtain ⟨as,ra⟩:=Den.reads I d x v n1 hd rx
 obtain ⟨bs,rb⟩:=Den.reads I e y u n2 he ry
 exact ne_dataH ra rb s1 s2 hu ⟨.bl _,H,I,rfl,q⟩
theorem aAY:MtR X "tuple.count" (fun x vs H Q=>∃ (a:Addr) (ns:List Int) (n:Int),x=.ref a/\vs = [.int n]/\SqT X.K H a (ns.map V.int)/\Q (.int (ns.count n:Nat)) H):=by
 intro pins s σ H x v vs us Q I rx r h
 obtain ⟨a,ns,n,rfl,rfl,ha,q⟩:=h
 obtain ⟨u,rfl,t,rfl⟩:=gB r
 cases rx
 obtain ⟨its,rv,⟨⟨cls,dd,data,sl⟩,ho,hc,k,hd⟩,hzz⟩:=I.tuple ha
 simp only at hc hd
 subst hc hd
 have hi:IntsAre its ns:=eY rv
 refine call_meets PySem.F.slot_tuple_count ⟨_,ho,rfl⟩ PySem.F.entry_tuple_count (PySem.F.args_tuple_count_2 _ _) (SeqAt.tuple_countAt a its.toArray k dd sl (.int n t) (isInt n)) ⟨ho,fun y hy=>(eq_isInt n t hi y (by simpa using hy)).at _ _,?_⟩
 have e:(its.toArray.toList.countP (isInt n))=ns.count n:=by
  simp only [Wl]
  clear q r ha rv ho hzz
  induction hi with
  | nil=>rfl
  | cons m t' _ ih =>
   rw [List.countP_cons,Xo,ih]
   rfl
 rw [e]
 exact ⟨.int _,H,I.tok _,⟨_,rfl⟩,q⟩
end
section
variable {prog:Program} {w:World} {A:Around} {E:Value->Shared->Prop} {s:Shared}
theorem yI {x:Value} {Q:List Value->Shared->Prop}
  (h:∀ R:Result->Shared->Prop,(∀ (s':Shared) (acc:Array Value) (c:Nat),s'.heap.get? s.heap.objs.size=some { cls:=.type "list",data:=.seq acc c }->Q acc.toList s'->R (.ok (.ret (.ref s.heap.objs.size))) s') ->
   wpAny (model prog w) A.in1 (Builtin.List.listExtendWith (.ref s.heap.objs.size) x (.ref s.heap.objs.size))
    (fun fin s'=>match fin with | .done f=>R (.ok f) s' | .again c'=>c'.quiet=true/\codeAny (model prog w) A c' R s') (fun e s'=>R (.error e) s') { s with heap:=s.heap.push { cls:=.type "list",data:=.seq ([]:List Value).toArray } }) :
  wpAny (model prog w) A (collect x) Q E s:=by
 unfold collect
 refine wpAny_bind (wpAny_runValue (codeAny_builtin PySem.F.entry_proto_collect ?_))
 rw [Around.under_plainId PySem.F.plain_proto_collect _]
 show wpAny _ A.in1 (newList [] >>= fun l=>again (.builtin "list.__iadd__" ⟨[l,x],[]⟩)) _ _ s
 refine wpAny_bind (wpAny_newObj_type ?_)
 refine wpAny_pure ⟨plainId_quiet PySem.F.plain_list_iadd _,codeAny_builtin PySem.F.entry_list_iadd ?_⟩
 rw [Around.under_plainId PySem.F.plain_list_iadd _]
 show wpAny _ A.in1 (Builtin.List.listExtendWith (.ref s.heap.objs.size) x (.ref s.heap.objs.size)) _ _ _
 have fin':∀ (s':Shared) (acc:Array Value) (c:Nat),s'.heap.get? s.heap.objs.size=some { cls:=.type "list",data:=.seq acc c }->Q acc.toList s'->wpAny (model prog w) A (match Value.ref s.heap.objs.size with
   | Value.ref a => do
     match (<- load a).data with
      | Data.seq xs _=>pure xs.toList
      | _=>unsupported "internal:collect"
   | _=>unsupported "internal:collect") Q E s':=by
  intro s' acc c e q
  show wpAny _ A (load s.heap.objs.size >>= _) _ _ _
  exact wpAny_bind (wpAny_load e (wpAny_pure q))
 refine wpAny_mono (h (fun r s'=>r=.ok (.ret (.ref s.heap.objs.size))/\∃ acc c,s'.heap.get? s.heap.objs.size=some { cls:=.type "list",data:=.seq acc c }/\Q acc.toList s') (fun s' acc c e q=>⟨rfl,acc,c,e,q⟩)) (fun fin s' h=>?_) (fun e s' h=>?_)
 ·cases fin with
  | done f =>
   obtain ⟨e,acc,c,e2,q⟩:=h
   cases e
   exact fin' s' acc c e2 q
  | again c'=>exact ⟨h.1,codeAny_mono h.2 fun r s'' hr=>by obtain ⟨rfl,acc,c,e2,q⟩:=hr; exact fin' s'' acc c e2 q⟩
 ·exact absurd h.1 (by simp)
theorem sB {r:Addr} {a b:Int} {t u v:Tok} {n:Nat} {Q:List Value->Shared->Prop} (hh:A.handled=none) (hr:IsRange s.heap r a b 1 t u v) (hsmall:Builtin.Range.small a b 1=true)
  (hn:Builtin.Range.rangeSize a b 1=n) (hlen:n<=2^24)
  (h:∀ h' tk vs,(∀ b o,s.heap.get? b=some o->h'.get? b=some o)->IntsAre vs ((List.range n).map fun (i:Nat)=>a+(i:Int))->Q vs { s with heap:=h',toks:=tk }):wpAny (model prog w) A (collect (.ref r)) Q E s:=by
 refine yI fun R hR=>?_
 have hr':IsRange (s.heap.push { cls:=.type "list",data:=.seq ([]:List Value).toArray }) r a b 1 t u v:=Qa _ hr
 refine wpAny_extend_range (s:={ s with heap:=s.heap.push { cls:=.type "list",data:=.seq ([]:List Value).toArray } }) hh hr' hsmall hn hlen s.heap.objs.size (.ref s.heap.objs.size) 0 (Qi _ rfl) fun h' tk acc' c' kp e it=>?_
 refine hR { s with heap:=h',toks:=tk } acc' c' e (h h' tk acc'.toList (fun b o q=>kp b o (Je (Ql q)) (Qa _ q)) ?_)
 obtain ⟨hs,hi⟩:=it
 -- the items one by one
 have key:∀ (k:Nat) (l:List Value) (m:Nat),l.length=k->(∀ (j:Nat) (v:Value),l[j]?=some v->∃ t,v=Value.int (a+((m+j:Nat):Int)) t)->IntsAre l ((List.range' m k).map fun (i:Nat)=>a+(i:Int)):=by
  intro k
  induction k with
  | zero=>intro l m hl _; rw [Xx.mp hl]; exact .nil
  | succ k ih =>
   intro l m hl hv
   cases l with
   | nil=>simp at hl
   | cons v l =>
    obtain ⟨t,e⟩:=hv 0 v rfl
    rw [List.range'_succ,Jj,e]
    exact .cons _ t (ih l (m+1) (by simpa using hl) fun j v' hj=>by
     obtain ⟨t',e'⟩:=hv (j+1) v' (by simpa using hj)
     exact ⟨t',by rw [e',show m+(j+1)=m+1+j by omega]⟩)
 have:=key n acc'.toList 0 (by rw [Array.length_toList,hs]) fun j v hj=>by
  obtain ⟨t,e⟩:=hi j v (by simpa using hj)
  exact ⟨t,by rw [e]; first | (congr 1; done) | (congr 1; omega)⟩
 rwa [<- List.range_eq_range'] at this
theorem aAZ {x:Value} {ns:List Int} {Q:Value->Shared->Prop} (h64:ns.length < 64)
  (hc:∀ Q':List Value->Shared->Prop,(∀ h' tk vs,(∀ b o,s.heap.get? b=some o->h'.get? b=some o)->IntsAre vs ns->Q' vs { s with heap:=h',toks:=tk })->wpAny (model prog w) A.in1 (collect x) Q' E s)
  (h:∀ (h1 h':Heap) tk out ns',(∀ b o,s.heap.get? b=some o->h1.get? b=some o)->(∀ b o,h1.get? b=some o->h'.get? b=some o)->h'.PlainList h1.objs.size out->IntsAre out.toList ns'->ns'.Perm ns->ns'.Pairwise (·<=·)->Q (.ref h1.objs.size) { s with heap:=h',toks:=tk }) :
  wpAny (model prog w) A (call (.builtin "sorted") [x]) Q E s:=by
 refine Calls.call_function_entry kind_sorted plain_sorted entry_sorted (args_sorted1 _) ?_
 unfold Builtin.«sorted»
 refine wpAny_bind (m:=checkCount "sorted" 1 1 _) (wpAny_pure ?_)
 refine wpAny_bind (hc _ fun h1 tk vs kp hi=>?_)
 have hlen:=hi.length
 refine wpAny_bind (wpAny_newList ?_ (by rw [sizeLine_eq]; omega))
 have hoL:(h1.push (seqObj "list" vs.toArray 0)).get? h1.objs.size=some (seqObj "list" vs.toArray 0):=Qi _ rfl
 refine wpAny_bind (wpAny_holding (wpAny_call_entry slot_list_sort ⟨_,hoL,rfl⟩ entry_list_sort (list_sort_tree hoL hi (by omega) fun out ns' a1 a2 a3=>⟨_,rfl,?_⟩) (args_list_sort _)))
 refine wpAny_pure ⟨_,rfl,?_⟩
 obtain ⟨e,he⟩:=sortedHeap_at (out:=out) hoL
 refine h h1 _ tk out ns' kp (fun b o q=>?_) ⟨e,he⟩ a1 a2 a3
 rw [sortedHeap_old (Je (Ql q)) (by rw [size_push']; exact Jy (Ql q))]
 exact Qa _ q
theorem sC {x:Value} {ns:List Int} {b:Bool} {Q:Value->Shared->Prop} (h64:ns.length < 64)
  (hc:∀ Q':List Value->Shared->Prop,(∀ h' tk vs,(∀ b o,s.heap.get? b=some o->h'.get? b=some o)->IntsAre vs ns->Q' vs { s with heap:=h',toks:=tk })->wpAny (model prog w) A.in1 (collect x) Q' E s)
  (h:∀ (h1 h':Heap) tk out ns',(∀ b o,s.heap.get? b=some o->h1.get? b=some o)->(∀ b o,h1.get? b=some o->h'.get? b=some o)->h'.PlainList h1.objs.size out->IntsAre out.toList ns'->ns'.Perm ns->Ordered b ns'->Q (.ref h1.objs.size) { s with heap:=h',toks:=tk }) :
  wpAny (model prog w) A (call (.builtin "sorted") [x] [(Str.ofString "reverse",.bool b)]) Q E s:=by
 refine call_function_entry_kw kind_sorted plain_sorted entry_sorted (args_sorted_rev _ _) ?_
 unfold Builtin.«sorted»
 refine wpAny_bind (m:=checkCount "sorted" 1 1 _) (wpAny_pure ?_)
 refine wpAny_bind (hc _ fun h1 tk vs kp hi=>?_)
 have hlen:=hi.length
 refine wpAny_bind (wpAny_newList ?_ (by rw [sizeLine_eq]; omega))
 have hoL:(h1.push (seqObj "list" vs.toArray 0)).get? h1.objs.size=some (seqObj "list" vs.toArray 0):=Qi _ rfl
 refine wpAny_bind (wpAny_holding (wpAny_call_entry_kw slot_list_sort ⟨_,hoL,rfl⟩ entry_list_sort (list_sort_tree_rev hoL hi (by omega) fun out ns' a1 a2 a3=>⟨_,rfl,?_⟩) (args_list_sort_rev _ _)))
 refine wpAny_pure ⟨_,rfl,?_⟩
 obtain ⟨e,he⟩:=sortedHeap_at (out:=out) hoL
 refine h h1 _ tk out ns' kp (fun b o q=>?_) ⟨e,he⟩ a1 a2 a3
 rw [sortedHeap_old (Je (Ql q)) (by rw [size_push']; exact Jy (Ql q))]
 exact Qa _ q
end
theorem jZ (r:Addr) (a b:Int) (t u v:Tok) (n:Nat) (hsmall:Builtin.Range.small a b 1=true) (hn:Builtin.Range.rangeSize a b 1=n) (hlen:n<=2^24) :
  Meets (Builtin.«tuple.__new__» ⟨[.type "tuple",.ref r],[]⟩)
   (fun A R s=>A.handled=none/\IsRange s.heap r a b 1 t u v/\∀ (h':Heap) tk (vs:List Value),(∀ b o',s.heap.get? b=some o'->h'.get? b=some o')->IntsAre vs ((List.range n).map fun (i:Nat)=>a+(i:Int)) ->
    R (.ok (.ret (.ref h'.objs.size))) { s with heap:=h'.push { cls:=.type "tuple",data:=.seq vs.toArray },toks:=tk }) :=
 .of_wp fun prog w A R s h=>by
  obtain ⟨hp,g,d,tk,os⟩:=s; obtain ⟨hh,ht,h⟩:=h
  have hsub:=sub_tuple_self
  have hinit:=init_tuple_lookup
  have hmh:=madeHere_tuple
  have hT:Shared.TypeIs ⟨hp,g,d,tk,os⟩ (.ref r) "range" := ⟨_,ht,rfl⟩
  wp_walk using wpAny_loadPart' ht,wpAny_typeOf hT,sB (A:=A.in1) (s:=⟨hp,g,d,tk,os⟩) hh ht hsmall hn hlen
  intro h' tk' vs hk hi
  show wpAny _ _ (Builtin.Tuple.tupleExact vs.toArray >>= fun v=>ret v) _ _ _
  unfold Builtin.Tuple.tupleExact
  have hl:=hi.length
  rw [Qb,Zg] at hl
  refine wpAny_bind (wpAny_newObj_type ?_ (by show vs.toArray.size<=sizeLine; rw [Qj,sizeLine_eq]; omega))
  refine wpAny_pure ⟨_,rfl,?_⟩
  exact h h' tk' vs hk hi
section
variable {X:Cx}
def cZ (n:Nat):List Int:=(List.range n).map fun (i:Nat)=>(i:Int)
theorem vX:eI X (.builtin "sorted") (fun xs H Q=>∃ (a:Addr) (ns:List Int),xs = [.ref a]/\(SqL X.K H a (ns.map V.int)∨SqT X.K H a (ns.map V.int))/\ns.length < 64 /\
  ∀ (p:Addr) (ms:List Int),H p=none->ms.Perm ns->ms.Pairwise (·<=·)->Q (.ref p) (upd H p (.lst (ms.map V.int)))):=by
 intro pins s σ H xs us Q I r h
 obtain ⟨a,ns,rfl,ha,h64,q⟩:=h
 obtain ⟨u,rfl,rx⟩:=gB r
 cases rx
 refine aAZ h64 (fun Q' hQ'=>?_) fun h1 h' tk out ns' k1 k2 pl hi hp ho=>?_
 ·rcases ha with ha | ha
  ·obtain ⟨its,rv,⟨o,n,e,c,_,d⟩,hz⟩:=I.list ha
   have hl:=rv.length
   exact wpAny_collect_seq a (.inl rfl) e c d (fun h' kp=>hQ' h' s.toks _ kp (by simpa using eY rv)) (by rw [Qj,<- hl]; exact hz)
  ·obtain ⟨its,rv,⟨o,e,c,n,d⟩,hz⟩:=I.tuple ha
   have hl:=rv.length
   exact wpAny_collect_seq a (.inr rfl) e c d (fun h' kp=>hQ' h' s.toks _ kp (by simpa using eY rv)) (by rw [Qj,<- hl]; exact hz)
 ·have I1:Inv X pins σ H { s with heap:=h1,toks:=tk }:=I.kept k1
  have hf:=I1.hok.fresh (Qh _)
  have hl:=hp.length_eq
  obtain ⟨n,e⟩:=pl
  have I2:Inv X pins σ (upd H h1.objs.size (.lst (ns'.map V.int))) { s with heap:=h',toks:=tk } :=
   I1.laid (t':=tk) k2 (Qh _) (show bW X.prog X.w _ _ _ (.lst _) from ⟨by rw [Qb,hl,sizeLine_eq]; omega,out.toList,n,kX hi,by simpa using e⟩)
  exact ⟨.ref h1.objs.size,_,I2,rfl,q _ ns' hf hp ho⟩
theorem sD {x:Expr} {p pos kpos:Pos} {tx:TE} {cj cpos} (hg:Gl X "sorted") (hm:X.mg "sorted" = none) (hx:PE X x tx)
  (he:starEach [x] X.env = [(false,eval x X.env)]:=by rfl) :
  PE X (.Call (.Name "sorted" p) [x] [⟨some "reverse",.Constant (.bool true) cj cpos,kpos⟩] pos) (fun σ H Q=>tx σ H fun v H1=>∃ (a:Addr) (ns:List Int),v=.ref a/\(SqL X.K H1 a (ns.map V.int)∨SqT X.K H1 a (ns.map V.int))/\ns.length < 64 /\
   ∀ (p:Addr) (ms:List Int),H1 p=none->ms.Perm ns->ms.Pairwise (·≥·)->Q (.ref p) (upd H1 p (.lst (ms.map V.int)))):=by
 intro pins s σ H Q I h
 refine wpAny_Call_Name_kw (hJ (u:=.builtin "sorted") I hg hm (by decide +kernel) ?_)
 have hpa:PA X [x] (vR tx aBP):=aA hx aB he
 refine callWith_kw (thn (hpa pos pins s σ H (fun vs H1=>match vs with
   | [v]=>∃ (a:Addr) (ns:List Int),v=.ref a/\(SqL X.K H1 a (ns.map V.int)∨SqT X.K H1 a (ns.map V.int))/\ns.length < 64/\∀ (p:Addr) (ms:List Int),H1 p=none->ms.Perm ns->ms.Pairwise (·≥·)->Q (.ref p) (upd H1 p (.lst (ms.map V.int)))
   | _=>False) I h) fun us s1 ⟨vs,H1,I1,r1,q1⟩=>?_) (by rw [he]; rfl) (by rw [he]; rfl)
 have hk:PK X [⟨some "reverse",.Constant (.bool true) cj cpos,kpos⟩] (vR (tC (.bl true)) aBP):=aDf cE aEt
 refine thn (hk pos pins s1 σ H1 (fun zs H2=>zs = [.bl true]/\H2=H1) I1 ⟨rfl,rfl⟩) fun ws s2 hx9=>?_
 obtain ⟨zs,H2,I2,rz,ez,eH⟩:=hx9
 subst ez eH
 obtain ⟨w1,rfl,rw1⟩:=gB rz
 cases rw1
 match vs,r1,q1 with
 | [v],r1,q1 =>
  obtain ⟨a,ns,rfl,ha,h64,q⟩:=q1
  obtain ⟨u,rfl,rx⟩:=gB r1
  cases rx
  show wpAny (model X.prog X.w) X.A (call (.builtin "sorted") [.ref a] [(Str.ofString "reverse",.bool true)]) _ _ _
  refine sC h64 (fun Q' hQ'=>?_) fun h1 h' tk out ns' k1 k2 pl hi hp ho=>?_
  ·rcases ha with ha | ha
   ·obtain ⟨its,rv,⟨o,n,e,c,_,d⟩,hz⟩:=I2.list ha
    have hl:=rv.length
    exact wpAny_collect_seq a (.inl rfl) e c d (fun h' kp=>hQ' h' s2.toks _ kp (by simpa using eY rv)) (by rw [Qj,<- hl]; exact hz)
   ·obtain ⟨its,rv,⟨o,e,c,n,d⟩,hz⟩:=I2.tuple ha
    have hl:=rv.length
    exact wpAny_collect_seq a (.inr rfl) e c d (fun h' kp=>hQ' h' s2.toks _ kp (by simpa using eY rv)) (by rw [Qj,<- hl]; exact hz)
  ·have J1:Inv X pins σ H2 { s2 with heap:=h1,toks:=tk }:=I2.kept k1
   have hf:=J1.hok.fresh (Qh _)
   have hl:=hp.length_eq
   obtain ⟨n,e⟩:=pl
   have J2:Inv X pins σ (upd H2 h1.objs.size (.lst (ns'.map V.int))) { s2 with heap:=h',toks:=tk } :=
    J1.laid (t':=tk) k2 (Qh _) (show bW X.prog X.w _ _ _ (.lst _) from ⟨by rw [Qb,hl,sizeLine_eq]; omega,out.toList,n,kX hi,by simpa using e⟩)
   exact ⟨.ref h1.objs.size,_,J2,rfl,q _ ns' hf hp ho⟩
 | [],_,q1=>exact q1.elim
 | _::_::_,_,q1=>exact q1.elim
end
def tab (L:Bool) (ns:List Nat):SetTable:={ mask:=7,place:=ns.toArray,dummies:=#[],finger:=0,led:=L,moves:=0,plain:=true }
def aFY (l:List (Nat×Tok)):Array (Int×Value):=(l.map fun p=>((p.1:Int),Value.int (p.1:Int) p.2)).toArray
def SX (L:Bool) (h:Heap) (a:Addr) (l:List (Nat×Tok)):Prop:=∃ o ep,h.get? a=some o/\o.ExactSet/\o.data=.set (aFY l) ep (tab L (l.map (·.1)))
section
variable {prog:Program} {w:World} {A:Around} {E:Value->Shared->Prop} {s:Shared} {L:Bool} {a:Addr}
end
section
variable {prog:Program} {w:World} {A:Around} {E:Value->Shared->Prop} {s:Shared}
abbrev Led (w:World):Bool:=!(w.params.followText "set-order")
theorem pT (a:Value) {Q₁:Value->Shared->Prop}
  (h:Q₁ (.ref s.heap.objs.size) { s with heap:=s.heap.push { cls:=.type "set",dict:=none,data:=.set #[] 0 (.fresh 0 0 (Led w)) } }) :
  codeAny (model prog w) A (.call (.builtin "set.__new__") ⟨[.type "set",a],[]⟩) (wants Q₁ E) s:=by
 refine codeAny_of_tree ?_
 show wpAny _ A.in1 (do checkBuiltinCall "set.__new__" ⟨[.type "set",a],[]⟩; again (.builtin "set.__new__" ⟨[.type "set",a],[]⟩)) _ _ s
 refine wpAny_bind (wpAny_of_eq (PySem.F.newCall_set_1 a) (wpAny_pure ⟨plainId_quiet PySem.F.plain_set_new _,codeAny_builtin PySem.F.entry_set_new ?_⟩))
 rw [Around.under_plainId PySem.F.plain_set_new _]
 unfold Builtin.«set.__new__» Builtin.Frozenset.newClass
 have hsub:=sub_set_self
 obtain ⟨hp,g,d,tk,os⟩:=s
 dsimp only
 wp_walk
 refine wpAny_askSetting (wpAny_pure ?_)
 dsimp only
 simp only [newObj]
 refine wpAny_bind (wpAny_alloc (wpAny_pure ?_))
 exact wpAny_pure h
theorem aBX {I S:Addr} {fp wr:List Addr} {n i:Nat} {P:Nat->Value->Prop} {St:Nat->Heap->Prop} {R:Result->Shared->Prop} (W:Walks prog w A.in1 I fp wr n P St) (hi:i < n) (st:St i s.heap)
  (h:∀ v h' tk,P i v->St (i+1) h'->(∀ b o,b∉wr->s.heap.get? b=some o->h'.get? b=some o) ->
   wpAny (model prog w) A.in1 (setAdd S v) (fun _ s2=>codeAny (model prog w) A (.builtin "set.update.loop" ⟨[.ref S,.ref I],[]⟩) R s2) (fun e s'=>R (.error e) s') { s with heap:=h',toks:=tk }) :
  codeAny (model prog w) A (.builtin "set.update.loop" ⟨[.ref S,.ref I],[]⟩) R s:=by
 refine codeAny_builtin PyProof.Rows.F.entry_set_update_loop ?_
 rw [Around.under_plainId PyProof.Rows.F.plain_set_update_loop _]
 show wpAny _ A.in1 (pyNext (.ref I) >>= _) _ _ s
 refine wpAny_bind (W.item i s _ _ hi st fun v h' tk hP hst' hk=>?_)
 show wpAny _ A.in1 (holding [v] (setAdd S v) >>= _) _ _ _
 refine wpAny_bind (wpAny_holding (wpAny_mono (h v h' tk hP hst' hk) (fun _ s2 q=>?_) fun _ _ e=>e))
 exact wpAny_pure ⟨plainId_quiet PyProof.Rows.F.plain_set_update_loop _,q⟩
theorem aBY {I S:Addr} {fp wr:List Addr} {n:Nat} {P:Nat->Value->Prop} {St:Nat->Heap->Prop} {R:Result->Shared->Prop} (W:Walks prog w A.in1 I fp wr n P St) (st:St n s.heap)
  (h:∀ h' tk,(∀ b o,b∉wr->s.heap.get? b=some o->h'.get? b=some o)->R (.ok (.ret .none)) { s with heap:=h',toks:=tk }) :
  codeAny (model prog w) A (.builtin "set.update.loop" ⟨[.ref S,.ref I],[]⟩) R s:=by
 refine codeAny_builtin PyProof.Rows.F.entry_set_update_loop ?_
 rw [Around.under_plainId PyProof.Rows.F.plain_set_update_loop _]
 show wpAny _ A.in1 (pyNext (.ref I) >>= _) _ _ s
 refine wpAny_bind (W.done s _ _ st fun h' tk hk=>?_)
 show wpAny _ A.in1 (ret Value.none) _ _ _
 exact wpAny_pure (h h' tk hk)
def two (a b:Nat) (t u:Tok):List (Nat×Tok):=if a=b then [(a,t)] else if a < b then [(a,t),(b,u)] else [(b,u),(a,t)]
theorem SX.keep {L:Bool} {h h':Heap} {a:Addr} {l:List (Nat×Tok)} (x:SX L h a l) (k:∀ o,h.get? a=some o->h'.get? a=some o):SX L h' a l:=by
 obtain ⟨o,ep,e,r⟩:=x
 exact ⟨o,ep,k o e,r⟩
end
section
variable {prog:Program} {w:World} {A:Around} {E:Value->Shared->Prop} {s:Shared} {S:Addr} {o:Obj} {ep:Nat} {l:List (Nat×Tok)}
end
def aFZ (w:World) (p:Addr) (a b:Nat):HO:=.ext fun h=>∃ t u,SX (Led w) h p (two a b t u)
section
variable {X:Cx}
end
structure Sub (prog:Program) (w:World) (i l:Addr) (n:Nat) (P:Nat->Value->Prop) (st:Nat->Heap->Prop):Prop where
 keep:∀ k h h',st k h->(∀ b,b=i∨b=l->∀ o,h.get? b=some o->h'.get? b=some o)->st k h'
 obj:∀ k h,st k h->(∃ o,h.get? i=some o/\∀ v,o.data≠.cell v)/\∃ o,h.get? l=some o
 item:∀ (A:Around) k (s:Shared) (Q:Value->Shared->Prop) (E:Value->Shared->Prop),k < n->st k s.heap->(∀ v h',P k v->st (k+1) h'->Heap.SameBut i s.heap h'->Q v { s with heap:=h' })->wpAny (model prog w) A (Builtin.SmallTypes.nextOf (.ref i)) Q E s
 done:∀ (A:Around) (s:Shared) (Q:Value->Shared->Prop) (E:Value->Shared->Prop),A.handled=none->st n s.heap->(∀ h' e,Heap.ExtBut i s.heap h'->(∃ o,h'.get? e=some o/\o.cls=.type "StopIteration")->E (.ref e) { s with heap:=h' }) ->
  wpAny (model prog w) A (Builtin.SmallTypes.nextOf (.ref i)) Q E s
theorem aBZ (prog:Program) (w:World) (i l:Addr) (items:Array Value) (hne:l≠i):Sub prog w i l items.size (fun k v=>items[k]?=some v) (fun k h=>h.IsListIter i l k/\h.IsList l items) where
 keep:=fun k h h' st kp=>⟨st.1.at fun o e=>kp i (.inl rfl) o e,st.2.at fun o e=>kp l (.inr rfl) o e⟩
 obj:=fun k h st=>by
  obtain ⟨⟨o,e,_,d⟩,⟨o2,e2,_⟩⟩:=st
  exact ⟨⟨o,e,fun v z=>by rw [d] at z; cases z⟩,o2,e2⟩
 item:=fun A k s Q E hk st hQ=>wpAny_nextOf_list_item st.1 st.2 (Array.getElem?_eq_getElem hk) fun h' a b=>hQ _ h' (Array.getElem?_eq_getElem hk) ⟨a,st.2.at fun o e=>b.extBut l o hne e⟩ b
 done:=fun A s Q E hh st hE=>wpAny_nextOf_list_end hh st.1 st.2 (Array.getElem?_eq_none (Qh _)) hE
theorem mI {prog:Program} {w:World} {A:Around} {E:Value->Shared->Prop} {s:Shared} {it t:Addr} {i:Nat} {items:Array Value} {x:Value} {Q:Value->Shared->Prop} (hit:s.heap.IsTupleIter it t i) (ht:s.heap.IsTuple t items) (hx:items[i]?=some x)
  (hQ:∀ h',h'.IsTupleIter it t (i+1)->Heap.SameBut it s.heap h'->Q x { s with heap:=h' }):wpAny (model prog w) A (Builtin.SmallTypes.nextOf (.ref it)) Q E s:=by
 obtain ⟨o,ho,hc,hd⟩:=id hit
 obtain ⟨ol,hol,_,nl,hdl⟩:=ht
 have hT:=hit.typeIs
 unfold Builtin.SmallTypes.nextOf
 refine wpAny_bind (wpAny_callSpecial?_slot (name:=Str.ofString "__next__") hT PySem.F.slot_tuple_iterator_next (wpAny_call_entry PySem.F.slot_tuple_iterator_next hT PySem.F.entry_tuple_iterator_next ?_ (PySem.F.args_tuple_iterator_next_1 _)))
 refine wpAny_bind (m:=field (.ref it) 0) (wpAny_field ho hd (x:=.ref t) rfl ?_)
 have hno:¬ ((Value.ref t==Value.none)=true):=Qv
 show wpAny _ _ (if (Value.ref t==Value.none)=true then _ else _) _ _ s
 rw [if_neg hno]
 refine wpAny_bind (m:=field (.ref it) 1) (wpAny_field ho hd (x:=.int i 0) rfl ?_)
 refine wpAny_bind (m:=seqItems? (.ref t)) (wpAny_seqItems hol hdl ?_)
 simp only [Jw,hx]
 refine wpAny_bind (wpAny_setField ho hd (by simp) (wpAny_pure ⟨x,rfl,wpAny_pure (hQ _ ?_ (Heap.SameBut.update ..))⟩))
 refine ⟨_,Xs _ ho (Obj.isFreed_of_fields (Obj.data_mapFields hd _)),(Obj.cls_mapFields ..).trans hc,?_⟩
 rw [Obj.data_mapFields hd]
 simp [rawInt]
theorem nR {prog:Program} {w:World} {A:Around} {E:Value->Shared->Prop} {s:Shared} {it t:Addr} {i:Nat} {items:Array Value} {Q:Value->Shared->Prop} (hh:A.handled=none) (hit:s.heap.IsTupleIter it t i) (ht:s.heap.IsTuple t items) (hx:items[i]?=none)
  (hE:∀ h' e,Heap.ExtBut it s.heap h'->(∃ o,h'.get? e=some o/\o.cls=.type "StopIteration")->E (.ref e) { s with heap:=h' }):wpAny (model prog w) A (Builtin.SmallTypes.nextOf (.ref it)) Q E s:=by
 obtain ⟨o,ho,hc,hd⟩:=id hit
 obtain ⟨ol,hol,_,nl,hdl⟩:=ht
 have hT:=hit.typeIs
 unfold Builtin.SmallTypes.nextOf
 refine wpAny_bind (wpAny_callSpecial?_slot (name:=Str.ofString "__next__") hT PySem.F.slot_tuple_iterator_next (wpAny_call_entry PySem.F.slot_tuple_iterator_next hT PySem.F.entry_tuple_iterator_next ?_ (PySem.F.args_tuple_iterator_next_1 _)))
 refine wpAny_bind (m:=field (.ref it) 0) (wpAny_field ho hd (x:=.ref t) rfl ?_)
 have hno:¬ ((Value.ref t==Value.none)=true):=Qv
 show wpAny _ _ (if (Value.ref t==Value.none)=true then _ else _) _ _ s
 rw [if_neg hno]
 refine wpAny_bind (m:=field (.ref it) 1) (wpAny_field ho hd (x:=.int i 0) rfl ?_)
 refine wpAny_bind (m:=seqItems? (.ref t)) (wpAny_seqItems hol hdl ?_)
 simp only [Jw,hx]
 refine wpAny_bind (wpAny_rule (wpAny_bind (wpAny_setField ho hd (by simp) ?_)))
 refine wpAny_bind (m:=newExc (.type "StopIteration") []) ?_
 simp only [newExc,newTuple]
 refine wpAny_bind (wpAny_newObj_type ?_ (by size_fits))
 refine wpAny_bind (m:=firstArgMember _ _) (wpAny_of_eq (a:=Value.none) (by first | rfl | (simp only [firstArgMember]; rfl)) ?_)
 refine wpAny_newObj_type ?_ (by size_fits)
 simp only [raiseNew]
 refine wpAny_bind (wpAny_handled ?_)
 first | rw [show A.in1.handled=none from hh] | rw [hh]
 refine wpAny_bind (wpAny_pure (wpAny_throw ?_))
 exact hE _ _ (((Heap.SameBut.update ..).extBut.push _).push _) ⟨_,Qi _ rfl,rfl⟩
theorem aA0 (prog:Program) (w:World) (i l:Addr) (items:Array Value) (hne:l≠i):Sub prog w i l items.size (fun k v=>items[k]?=some v) (fun k h=>h.IsTupleIter i l k/\h.IsTuple l items) where
 keep:=fun k h h' st kp=>⟨st.1.at fun o e=>kp i (.inl rfl) o e,by obtain ⟨o,e,r⟩:=st.2; exact ⟨o,kp l (.inr rfl) o e,r⟩⟩
 obj:=fun k h st=>by
  obtain ⟨⟨o,e,_,d⟩,⟨o2,e2,_⟩⟩:=st
  exact ⟨⟨o,e,fun v z=>by rw [d] at z; cases z⟩,o2,e2⟩
 item:=fun A k s Q E hk st hQ=>mI st.1 st.2 (Array.getElem?_eq_getElem hk) fun h' a b=>hQ _ h' (Array.getElem?_eq_getElem hk) ⟨a,by obtain ⟨o,e,r⟩:=st.2; exact ⟨o,b.extBut l o hne e,r⟩⟩ b
 done:=fun A s Q E hh st hE=>nR hh st.1 st.2 (Array.getElem?_eq_none (Qh _)) hE
section
variable {prog:Program} {w:World} {A:Around} {E:Value->Shared->Prop} {s:Shared} {z TI TO i1 i2 l1 l2:Addr} {n1 n2:Nat} {P1 P2:Nat->Value->Prop} {st1 st2:Nat->Heap->Prop}
theorem aDk {k:Nat} {a b:Value} {Q:Value->Shared->Prop} (D:ZipApart z TI TO i1 i2 l1 l2) (S1:Sub prog w i1 l1 n1 P1 st1) (S2:Sub prog w i2 l2 n2 P2 st2)
  (hz:IsZip s.heap z TI TO .none) (hTI:IsPair s.heap TI (.ref i1) (.ref i2)) (hTO:IsPair s.heap TO a b) (h1:st1 k s.heap) (h2:st2 k s.heap) (k1:k < n1) (k2:k < n2)
  (hQ:∀ h' x y,P1 k x->P2 k y->IsZip h' z TI TO (rawInt s.heap.objs.size)->IsPair h' TO x y->st1 (k+1) h'->st2 (k+1) h'->IsPair h' s.heap.objs.size x y ->
   (∀ c o,c≠z->c≠TO->c≠i1->c≠i2->s.heap.get? c=some o->h'.get? c=some o)->Q (.ref s.heap.objs.size) { s with heap:=h' }) :
  wpAny (model prog w) A (Builtin.«zip.__next__» ⟨[.ref z],[]⟩) (fun fin s'=>∃ v,fin=.done (.ret v)/\Q v s') E s:=by
 refine wpAny_bind (m:=field (.ref z) 2) (wpAny_field hz rfl (x:=.bool false) rfl ?_)
 refine wpAny_bind (m:=field (.ref z) 3) (wpAny_field hz rfl (x:=.ref TI) rfl ?_)
 refine wpAny_bind (wpAny_seqItems hTI rfl ?_)
 refine wpAny_bind (m:=Builtin.SmallTypes.ownedTupleIsFree (.ref z)) ?_
 unfold Builtin.SmallTypes.ownedTupleIsFree
 refine wpAny_bind (wpAny_field hz rfl (x:=.none) rfl (wpAny_pure ?_))
 simp only [if_true]
 refine wpAny_bind (wpAny_rule ?_)
 refine wpAny_bind (wpAny_field hz rfl (x:=.ref TO) rfl ?_)
 refine wpAny_bind (wpAny_setField_rec hz (by simp) fun g1 hz1 b1=>?_)
 have hz1':IsZip g1 z TI TO .ellipsis:=hz1
 refine wpAny_bind ?_
 simp only [Xy,Zc,Xl,Xt]
 -- the first one
 have s1:st1 k g1:=S1.keep _ _ _ h1 fun c hc o e=>b1.extBut c o (by rcases hc with r | r <;> rw [r]; exact D.i1z; exact D.l1z) e
 refine wpAny_bind (wpAny_bind (wpAny_onRaise ?_))
 refine wpAny_bind (m:=Builtin.SmallTypes.nextOf (.ref i1)) (S1.item _ k _ _ _ k1 s1 fun x g2 px t1 b2=>wpAny_pure ?_)
 have o2:IsPair g2 TO a b:=b2.extBut _ _ D.TOi1 (b1.extBut _ _ D.TOz hTO)
 refine wpAny_bind (wpAny_seqItems o2 rfl ?_)
 refine wpAny_bind (wpAny_updateSeq_pair o2 fun g3 o3 b3=>?_)
 have o3':IsPair g3 TO x b:=o3
 refine wpAny_bind (wpAny_letGo (wpAny_pure ?_))
 -- the second one
 have s2:st2 k g3:=S2.keep _ _ _ h2 fun c hc o e=>by
  rcases hc with r | r
  ·rw [r] at e ⊢; exact b3.extBut _ _ D.TOi2.symm (b2.extBut _ _ D.i12.symm (b1.extBut _ _ D.i2z e))
  ·rw [r] at e ⊢; exact b3.extBut _ _ D.l2TO (b2.extBut _ _ D.l2i1 (b1.extBut _ _ D.l2z e))
 refine wpAny_bind (wpAny_bind (wpAny_onRaise ?_))
 refine wpAny_bind (m:=Builtin.SmallTypes.nextOf (.ref i2)) (S2.item _ k _ _ _ k2 s2 fun y g4 py t2 b4=>wpAny_pure ?_)
 have o4:IsPair g4 TO x b:=b4.extBut _ _ D.TOi2 o3'
 refine wpAny_bind (wpAny_seqItems o4 rfl ?_)
 refine wpAny_bind (wpAny_updateSeq_pair o4 fun g5 o5 b5=>?_)
 have o5':IsPair g5 TO x y:=o5
 refine wpAny_bind (wpAny_letGo (wpAny_pure (wpAny_pure ?_)))
 refine wpAny_bind (wpAny_seqItems o5' rfl ?_)
 refine wpAny_bind (wpAny_newTuple ?_)
 have sz:g5.objs.size=s.heap.objs.size:=by rw [b5.1,b4.1,b3.1,b2.1,b1.1]
 have z5:IsZip g5 z TI TO .ellipsis:=b5.extBut _ _ D.TOz.symm (b4.extBut _ _ D.i2z.symm (b3.extBut _ _ D.TOz.symm (b2.extBut _ _ D.i1z.symm hz1')))
 have kp5:∀ c o,c≠z->c≠TO->c≠i1->c≠i2->s.heap.get? c=some o->g5.get? c=some o:=fun c o c1 c2 c3 c4 e =>
  b5.extBut _ _ c2 (b4.extBut _ _ c4 (b3.extBut _ _ c2 (b2.extBut _ _ c3 (b1.extBut _ _ c1 e))))
 have t1':st1 (k+1) g5:=S1.keep _ _ _ t1 fun c hc o e=>by
  rcases hc with r | r
  ·rw [r] at e ⊢; exact b5.extBut _ _ D.TOi1.symm (b4.extBut _ _ D.i12 (b3.extBut _ _ D.TOi1.symm e))
  ·rw [r] at e ⊢; exact b5.extBut _ _ D.l1TO (b4.extBut _ _ D.l1i2 (b3.extBut _ _ D.l1TO e))
 have t2':st2 (k+1) g5:=S2.keep _ _ _ t2 fun c hc o e=>by
  rcases hc with r | r
  ·rw [r] at e ⊢; exact b5.extBut _ _ D.TOi2.symm e
  ·rw [r] at e ⊢; exact b5.extBut _ _ D.l2TO e
 have zlt:g5.objs.size≠z:=Xj (Ql z5)
 refine wpAny_bind (m:=Builtin.SmallTypes.ownedTupleHandOut (.ref z) (.ref g5.objs.size)) ?_
 unfold Builtin.SmallTypes.ownedTupleHandOut
 have z6:IsZip (g5.push { cls:=.type "tuple",data:=.seq #[x,y] }) z TI TO .ellipsis:=Qa _ z5
 refine wpAny_bind (wpAny_setField_rec z6 (by simp) fun g7 z7 b7=>?_)
 have z7':IsZip g7 z TI TO (rawInt g5.objs.size):=z7
 refine wpAny_setField_rec z7' (by simp) fun g8 z8 b8=>?_
 have z8':IsZip g8 z TI TO (rawInt g5.objs.size):=z8
 have up:∀ c o,c≠z->g5.get? c=some o->g8.get? c=some o:=fun c o c1 e=>b8.extBut _ _ c1 (b7.extBut _ _ c1 (Qa _ e))
 have T8:IsPair g8 g5.objs.size x y:=b8.extBut _ _ zlt (b7.extBut _ _ zlt (Qi _ rfl))
 rw [sz] at z8' T8
 refine wpAny_pure ⟨_,rfl,?_⟩
 show Q (.ref g5.objs.size) _
 rw [sz]
 refine hQ g8 x y px py z8' (up _ _ D.TOz o5') (S1.keep _ _ _ t1' fun c hc o e=>up c o (by rcases hc with r | r <;> rw [r]; exact D.i1z; exact D.l1z) e) (S2.keep _ _ _ t2' fun c hc o e=>up c o (by rcases hc with r | r <;> rw [r]; exact D.i2z; exact D.l2z) e) T8 fun c o c1 c2 c3 c4 e=>up c o c1 (kp5 c o c1 c2 c3 c4 e)
theorem aEB {k:Nat} {a b:Value} {Q:Fin->Shared->Prop} (hh:A.handled=none) (D:ZipApart z TI TO i1 i2 l1 l2) (S1:Sub prog w i1 l1 n1 P1 st1) (S2:Sub prog w i2 l2 n2 P2 st2)
  (hz:IsZip s.heap z TI TO .none) (hTI:IsPair s.heap TI (.ref i1) (.ref i2)) (hTO:IsPair s.heap TO a b) (h1:st1 k s.heap) (h2:st2 k s.heap) (hend:k=n1/\k<=n2∨k=n2/\k < n1)
  (hE:∀ h' e,(∀ c o,c≠z->c≠TO->c≠i1->c≠i2->s.heap.get? c=some o->h'.get? c=some o)->(∃ o,h'.get? e=some o/\o.cls=.type "StopIteration")->E (.ref e) { s with heap:=h' }) :
  wpAny (model prog w) A (Builtin.«zip.__next__» ⟨[.ref z],[]⟩) Q E s:=by
 refine wpAny_bind (m:=field (.ref z) 2) (wpAny_field hz rfl (x:=.bool false) rfl ?_)
 refine wpAny_bind (m:=field (.ref z) 3) (wpAny_field hz rfl (x:=.ref TI) rfl ?_)
 refine wpAny_bind (wpAny_seqItems hTI rfl ?_)
 refine wpAny_bind (m:=Builtin.SmallTypes.ownedTupleIsFree (.ref z)) ?_
 unfold Builtin.SmallTypes.ownedTupleIsFree
 refine wpAny_bind (wpAny_field hz rfl (x:=.none) rfl (wpAny_pure ?_))
 simp only [if_true]
 refine wpAny_bind (wpAny_rule ?_)
 refine wpAny_bind (wpAny_field hz rfl (x:=.ref TO) rfl ?_)
 refine wpAny_bind (wpAny_setField_rec hz (by simp) fun g1 hz1 b1=>?_)
 have hz1':IsZip g1 z TI TO .ellipsis:=hz1
 refine wpAny_bind ?_
 simp only [Xy,Zc,Xl,Xt]
 have s1:st1 k g1:=S1.keep _ _ _ h1 fun c hc o e=>b1.extBut c o (by rcases hc with r | r <;> rw [r]; exact D.i1z; exact D.l1z) e
 refine wpAny_bind (wpAny_bind (wpAny_onRaise ?_))
 have fin:∀ (g:Heap) (e:Addr) (g0:Heap),(∃ o,g.get? e=some o/\o.cls=.type "StopIteration")->IsZip g z TI TO .ellipsis->(∀ c o,c≠z->c≠TO->c≠i1->c≠i2->s.heap.get? c=some o->g.get? c=some o) ->
   wpAny (model prog w) A (setField (.ref z) 0 .none) (fun _ s'=>E (.ref e) s') E { s with heap:=g }:=fun g e g0 ⟨oe,hoe,hce⟩ hzz kp=>by
  have hez:e≠z:=fun q=>by rw [q,hzz] at hoe; cases hoe; simp at hce
  exact wpAny_setField_rec hzz (by simp) fun g' _ b'=>hE g' e (fun c o c1 c2 c3 c4 q=>b'.extBut _ _ c1 (kp c o c1 c2 c3 c4 q)) ⟨oe,b'.extBut _ _ hez hoe,hce⟩
 rcases hend with ⟨e1,_⟩ | ⟨e2,k1⟩
 ·rw [e1] at s1
  refine wpAny_bind (m:=Builtin.SmallTypes.nextOf (.ref i1)) (S1.done _ _ _ _ hh s1 fun g2 e b2 he=>?_)
  exact fin g2 e g1 he (b2 _ _ D.i1z.symm hz1') fun c o c1 _ c3 _ q=>b2 _ _ c3 (b1.extBut _ _ c1 q)
 ·refine wpAny_bind (m:=Builtin.SmallTypes.nextOf (.ref i1)) (S1.item _ k _ _ _ k1 s1 fun x g2 px t1 b2=>wpAny_pure ?_)
  have o2:IsPair g2 TO a b:=b2.extBut _ _ D.TOi1 (b1.extBut _ _ D.TOz hTO)
  refine wpAny_bind (wpAny_seqItems o2 rfl ?_)
  refine wpAny_bind (wpAny_updateSeq_pair o2 fun g3 o3 b3=>?_)
  refine wpAny_bind (wpAny_letGo (wpAny_pure ?_))
  have s2:st2 n2 g3:=by
   rw [<- e2]
   exact S2.keep _ _ _ h2 fun c hc o e=>by
    rcases hc with r | r
    ·rw [r] at e ⊢; exact b3.extBut _ _ D.TOi2.symm (b2.extBut _ _ D.i12.symm (b1.extBut _ _ D.i2z e))
    ·rw [r] at e ⊢; exact b3.extBut _ _ D.l2TO (b2.extBut _ _ D.l2i1 (b1.extBut _ _ D.l2z e))
  refine wpAny_bind (wpAny_bind (wpAny_onRaise ?_))
  refine wpAny_bind (m:=Builtin.SmallTypes.nextOf (.ref i2)) (S2.done _ _ _ _ hh s2 fun g4 e b4 he=>?_)
  exact fin g4 e g3 he (b4 _ _ D.i2z.symm (b3.extBut _ _ D.TOz.symm (b2.extBut _ _ D.i1z.symm hz1'))) fun c o c1 c2 c3 c4 q=>b4 _ _ c4 (b3.extBut _ _ c2 (b2.extBut _ _ c3 (b1.extBut _ _ c1 q)))
end
inductive Sk where
 | l | t
def SqK (k:Sk) (K:PySem.W.Frag) (H:Hp) (a:Addr) (xs:List V):Prop:=match k with | .l=>SqL K H a xs | .t=>SqT K H a xs
def AtK (k:Sk) (h:Heap) (a:Addr) (its:Array Value):Prop:=match k with | .l=>h.IsList a its | .t=>h.IsTuple a its
def ItK (k:Sk) (h:Heap) (i a:Addr) (n:Nat):Prop:=match k with | .l=>h.IsListIter i a n | .t=>h.IsTupleIter i a n
def itK (k:Sk) (a:Addr):Obj:=match k with | .l=>{ cls:=.type "list_iterator",data:=.fields #[.ref a,.int 0 0] } | .t=>{ cls:=.type "tuple_iterator",data:=.fields #[.ref a,.int 0 0] }
theorem ItK.new (k:Sk) (h:Heap) (a:Addr):ItK k (h.push (itK k a)) h.objs.size a 0:=by
 cases k
 ·exact ⟨_,Qi _ rfl,rfl,rfl⟩
 ·exact ⟨_,Qi _ rfl,rfl,rfl⟩
theorem ItK.obj {k:Sk} {h:Heap} {i a:Addr} {n:Nat} (x:ItK k h i a n):∃ o,h.get? i=some o/\∀ v,o.data≠.cell v:=by
 cases k
 ·obtain ⟨o,e,_,d⟩:=x; exact ⟨o,e,fun v z=>by rw [d] at z; cases z⟩
 ·obtain ⟨o,e,_,d⟩:=x; exact ⟨o,e,fun v z=>by rw [d] at z; cases z⟩
theorem ItK.at {k:Sk} {h h':Heap} {i a:Addr} {n:Nat} (x:ItK k h i a n) (kp:∀ o,h.get? i=some o->h'.get? i=some o):ItK k h' i a n:=by
 cases k
 ·exact Heap.IsListIter.at x kp
 ·exact Heap.IsTupleIter.at x kp
theorem AtK.at {k:Sk} {h h':Heap} {a:Addr} {its:Array Value} (x:AtK k h a its) (kp:∀ o,h.get? a=some o->h'.get? a=some o):AtK k h' a its:=by
 cases k
 ·exact Heap.IsList.at x kp
 ·obtain ⟨o,e,r⟩:=x; exact ⟨o,kp o e,r⟩
theorem mJ (k:Sk) (prog:Program) (w:World) (i l:Addr) (items:Array Value) (hne:l≠i):Sub prog w i l items.size (fun j v=>items[j]?=some v) (fun j h=>ItK k h i l j/\AtK k h l items):=by
 cases k
 ·exact aBZ prog w i l items hne
 ·exact aA0 prog w i l items hne
theorem oK {prog:Program} {w:World} {A:Around} {E:Value->Shared->Prop} {s:Shared} {k:Sk} {a:Addr} {its:Array Value} {Q:Value->Shared->Prop} (h:AtK k s.heap a its) (hQ:Q (.ref s.heap.objs.size) { s with heap:=s.heap.push (itK k a) }):wpAny (model prog w) A (pyIter (.ref a)) Q E s:=by
 cases k
 ·exact wpAny_pyIter_list h hQ
 ·exact wpAny_pyIter_tuple h hQ
section
variable {X:Cx} {pins:List (Addr×Obj)} {σ:St} {H:Hp} {s:Shared}
theorem Inv.seqK (I:Inv X pins σ H s) {k:Sk} {a:Addr} {xs:List V} (h:SqK k X.K H a xs):∃ its:List Value,bG xs its/\AtK k s.heap a its.toArray:=by
 cases k
 ·obtain ⟨its,r,p,_⟩:=I.list h; exact ⟨its,r,p.isList⟩
 ·obtain ⟨its,r,p,_⟩:=I.tuple h; exact ⟨its,r,p⟩
theorem Inv.seqK_inj (I:Inv X pins σ H s) {k:Sk} {a:Addr} {xs ys:List V} (h:SqK k X.K H a xs) (h':SqK k X.K H a ys):xs=ys:=by
 cases k
 ·exact I.list_inj h h'
 ·exact I.tuple_inj h h'
theorem Inv.seq_ne (I:Inv X pins σ H s) {k:Sk} {a b:Addr} {xs:List V} (h:SqK k X.K H a xs) (f:kC X pins H b):a≠b:=by
 have rd:∀ {u:HO},Rd H a u->a≠b:=fun {u} r z=>by
  rcases r with r | ⟨o,r⟩ <;> (rw [z,f.1] at r; cases r)
 have kk:∀ {o:Obj},X.K.lookup a=some o->a≠b:=fun {o} e z=>by
  have e1:=I.ok.mod.kin a o e
  rcases f.2.2.2.1 with q | q
  ·exact I.ok.noex a o e1 (z ▸ q)
  ·exact Jb _ (Qp (Ql (I.ok.bs a o e1).1) (z ▸ q))
 cases k
 ·rcases h with h | ⟨o,_,_,e,_⟩
  ·exact rd h
  ·exact kk e
 ·rcases h with h | ⟨o,_,_,e,_⟩
  ·exact rd h
  ·exact kk e
theorem Inv.turnedL {h':Heap} {t':Nat} (ch:List Addr) (I:Inv X pins σ H s) (k:∀ b o,b∉ch->s.heap.get? b=some o->h'.get? b=some o) (f:∀ b∈ch,kC X pins H b):Inv X pins σ H { s with heap:=h',toks:=t' }:=by
 have nit:∀ b u,H b=some u->b∉ch:=fun b u e z=>by rw [(f b z).1] at e; cases e
 have nL:X.env.locals∉ch:=fun z=>(f _ z).2.1 rfl
 refine I.step (g':=s.gens) (d':=s.drawn) (ch:=ch) (fun b hb=>⟨(f b hb).2.2.2.1,(f b hb).2.1,(f b hb).2.2.2.2.1,(f b hb).2.2.2.2.2⟩) (fun b o _ _ hc e _=>k b o hc e) (fun b o _ _ hc e _=>⟨o.slots,k b o hc e⟩) (fun _ _ _ _ n=>n)
  (fun b o hc e=>⟨o,k b o hc e⟩) (fun _ _ e=>e) (fun _ _ _ e=>e) (fun b ps e=>⟨#[],by rw [e]; simp⟩) (fun m hm=>?_) (fun b u e=>?_) I.bare
 ·obtain ⟨o,es,ep,ho,r⟩:=hm
  exact ⟨o,es,ep,k _ o nL ho,r⟩
 ·refine (I.hok b u e).stay (fun c v hc q=>k c v ?_ q) (fun _ q=>q) fun _ _ q=>q
  rcases hc with z | z
  ·rw [z]; exact nit b u e
  ·exact nit c _ z
theorem Inv.trackO {D:Addr} {u:HO} (I:Inv X pins σ H s) (new:bW X.prog X.w (upd H D u) s.heap D u) (hn:H D=none) (hL:D≠X.env.locals)
  (h1:X.s₀.heap.objs.size<=D) (h2:∀ x c,X.env.cells.lookup x=some c->c≠D) (h3:∀ p∈X.pn++pins,p.1≠D):Inv X pins σ (upd H D u) s:=by
 have ne:∀ b v,H b=some v->b≠D:=fun b v e z=>by rw [z,hn] at e; cases e
 refine I.step (g':=s.gens) (d':=s.drawn) (t':=s.toks) (h':=s.heap) (ch:=[D]) (fun b hb=>?_) (fun b o _ _ _ e _=>e) (fun b o _ _ _ e _=>⟨o.slots,e⟩) (fun b o hc _ n=>?_) (fun b o _ e=>⟨o,e⟩)
  (fun b xs e=>by rw [aI (ne b _ e)]; exact e) (fun b o v e=>by rw [aI (ne b _ e)]; exact e) (fun b ps e=>⟨#[],by rw [aI (ne b _ e),e]; simp⟩) (fun _ h=>h) (fun b v e=>?_) I.bare
 ·have e:b=D:=by simpa using hb
  subst e
  exact ⟨.inr h1,hL,h2,h3⟩
 ·rw [aI (by simpa using hc)]; exact n
 ·by_cases hb:b=D
  ·subst hb
   rw [aC] at e; cases e
   exact new
  ·rw [aI hb] at e
   exact (I.hok b v e).stay (fun c v _ q=>q) (fun c q=>by rw [aI (ne c _ q)]; exact q) fun c xs q=>by rw [aI (ne c _ q)]; exact q
end
def Itz (K:PySem.W.Frag) (k1 k2:Sk) (a b:Addr):It :=
 ⟨fun i H => ∃ xs ys x y, SqK k1 K H a xs /\ SqK k2 K H b ys /\ xs[i]? = some x /\ ys[i]? = some y,
  fun i H v H'=>∃ p,H p=none/\v=.ref p/\∀ xs ys,SqK k1 K H a xs->SqK k2 K H b ys->∃ x y,xs[i]?=some x/\ys[i]?=some y/\H'=upd H p (.tup [x,y]),
  fun i H=>∃ xs ys,SqK k1 K H a xs/\SqK k2 K H b ys/\min xs.length ys.length=i⟩
theorem aB0 {P:Program} {w:World} {K:PySem.W.Frag} {es:List Expr} {x1} {pos:Pos} (k1 k2:Sk) (a b z TI TO i1 i2:Addr) (D:∀ l1 l2:Addr,(∀ c∈[z,TI,TO,i1,i2],l1≠c)->(∀ c∈[z,TI,TO,i1,i2],l2≠c)->ZipApart z TI TO i1 i2 l1 l2) :
  Turn P w K (.Tuple es x1 pos) (Itz K k1 k2 a b) [z,TI,TO,i1,i2] z (fun i h=>IsZip h z TI TO .none/\IsPair h TI (.ref i1) (.ref i2)/\(∃ x y,IsPair h TO x y)/\ItK k1 h i1 a i/\ItK k2 h i2 b i) where
 mem:=by simp
 obj:=fun i h st c hc=>by
  obtain ⟨hz,hTI,⟨x,y,hTO⟩,h1,h2⟩:=st
  simp only [Qm,Qo,or_false] at hc
  rcases hc with rfl | rfl | rfl | rfl | rfl
  ·exact ⟨_,hz,fun v q=>by cases q⟩
  ·exact ⟨_,hTI,fun v q=>by cases q⟩
  ·exact ⟨_,hTO,fun v q=>by cases q⟩
  ·exact h1.obj
  ·exact h2.obj
 keep:=fun i h h' st k=>by
  obtain ⟨hz,hTI,⟨x,y,hTO⟩,h1,h2⟩:=st
  exact ⟨k z (by simp) _ hz,k TI (by simp) _ hTI,⟨x,y,k TO (by simp) _ hTO⟩,h1.at fun o e=>k i1 (by simp) o e,h2.at fun o e=>k i2 (by simp) o e⟩
 item:=by
  intro X hP hw hK hc i pins s σ H E I hf st hg
  subst hP hw hK
  obtain ⟨hz,hTI,⟨x0,y0,hTO⟩,h1,h2⟩:=st
  obtain ⟨xs,ys,x,y,ha,hb,hx,hy⟩:=hg
  obtain ⟨its,rv,pa⟩:=I.seqK ha
  obtain ⟨jts,rw',pb⟩:=I.seqK hb
  obtain ⟨u,hu,ru⟩:=rv.get hx
  obtain ⟨v,hv,rv2⟩:=rw'.get hy
  have na:∀ c∈[z,TI,TO,i1,i2],a≠c:=fun c hc'=>I.seq_ne ha (hf c hc')
  have nb:∀ c∈[z,TI,TO,i1,i2],b≠c:=fun c hc'=>I.seq_ne hb (hf c hc')
  have DD:=D a b na nb
  have hT:s.TypeIs (.ref z) "zip" := ⟨_,hz,rfl⟩
  have hi1:i < its.toArray.size:=by rw [Qj]; exact (Qd.mp hu).1
  have hi2:i < jts.toArray.size:=by rw [Qj]; exact (Qd.mp hv).1
  unfold pyNext
  refine wpAny_bind (wpAny_attempt (wpAny_callSpecial?_slot (name:=Str.ofString "__next__") hT PySem.F.slot_zip_next (wpAny_call_entry PySem.F.slot_zip_next hT PySem.F.entry_zip_next
   (aDk DD (mJ k1 X.prog X.w i1 a its.toArray (na i1 (by simp))) (mJ k2 X.prog X.w i2 b jts.toArray (nb i2 (by simp))) hz hTI hTO ⟨h1,pa⟩ ⟨h2,pb⟩ hi1 hi2 fun h' u' v' pu pv hz' hTO' s1 s2 hT' kp=>wpAny_pure ?_) (PySem.F.args_zip_next_1 _))))
  have eu:u'=u:=by
   have q:its[i]?=some u':=by simpa using pu
   rw [hu] at q
   exact (Option.some.inj q).symm
  have ev:v'=v:=by
   have q:jts[i]?=some v':=by simpa using pv
   rw [hv] at q
   exact (Option.some.inj q).symm
  subst eu ev
  refine ⟨_,rfl,wpAny_letOwnedTupleGo_zip hz' fun h2 hz2 sb2=>?_⟩
  have Tz:s.heap.objs.size≠z:=Xj (Ql hz)
  have hT2:IsPair h2 s.heap.objs.size u' v':=sb2.extBut _ _ Tz hT'
  have hf0:=I.hok.fresh (Qh s.heap.objs.size)
  have fz:=I.fpOk (Qh s.heap.objs.size) hf0
  have I2:Inv X pins σ H { s with heap:=h2 }:=by
   refine I.turnedL (t':=s.toks) [z,TO,i1,i2] (fun c o hc' e=>?_) (fun c hc'=>hf c ?_)
   ·simp only [Qm,Qo,or_false,not_or] at hc'
    exact sb2.extBut _ _ hc'.1 (kp c o hc'.1 hc'.2.1 hc'.2.2.1 hc'.2.2.2 e)
   ·simp only [Qm,Qo,or_false] at hc' ⊢
    rcases hc' with r | r | r | r
    ·exact .inl r
    ·exact .inr (.inr (.inl r))
    ·exact .inr (.inr (.inr (.inl r)))
    ·exact .inr (.inr (.inr (.inr r)))
  have I3:Inv X pins σ (upd H s.heap.objs.size (.tup [x,y])) { s with heap:=h2 }:=by
   refine I2.trackO (show bW X.prog X.w _ _ _ (.tup [x,y]) from ⟨by show 2<=sizeLine; rw [sizeLine_eq]; decide,[u',v'],0,.cons ru (.cons rv2 .nil),hT2⟩) hf0 fz.2.1 I.sz fz.2.2.2.2.1 fz.2.2.2.2.2
  refine ⟨.ref s.heap.objs.size,_,I3,rfl,⟨s.heap.objs.size,hf0,rfl,fun xs' ys' ha' hb'=>?_⟩,⟨hz2,sb2.extBut _ _ DD.TIz (kp _ _ DD.TIz DD.TITO DD.TIi1 DD.TIi2 hTI),⟨_,_,sb2.extBut _ _ DD.TOz hTO'⟩,s1.1.at fun o e=>sb2.extBut _ _ DD.i1z e,s2.1.at fun o e=>sb2.extBut _ _ DD.i2z e⟩,fun c hc'=>?_⟩
  ·rw [I.seqK_inj ha' ha,I.seqK_inj hb' hb]
   exact ⟨x,y,hx,hy,rfl⟩
  ·have cl:c≠s.heap.objs.size:=by
    obtain ⟨o,e⟩:∃ o,s.heap.get? c=some o:=by
     simp only [Qm,Qo,or_false] at hc'
     rcases hc' with rfl | rfl | rfl | rfl | rfl
     ·exact ⟨_,hz⟩
     ·exact ⟨_,hTI⟩
     ·exact ⟨_,hTO⟩
     ·obtain ⟨o,e,_⟩:=h1.obj; exact ⟨o,e⟩
     ·obtain ⟨o,e,_⟩:=h2.obj; exact ⟨o,e⟩
    exact Je (Ql e)
   rw [aI cl]
   exact (hf c hc').1
 done:=by
  intro X hP hw hK hc i pins s σ H E I hf st hg
  subst hP hw hK
  obtain ⟨hz,hTI,⟨x0,y0,hTO⟩,h1,h2⟩:=st
  obtain ⟨xs,ys,ha,hb,hmin⟩:=hg
  obtain ⟨its,rv,pa⟩:=I.seqK ha
  obtain ⟨jts,rw',pb⟩:=I.seqK hb
  have la:=rv.length
  have lb:=rw'.length
  have na:∀ c∈[z,TI,TO,i1,i2],a≠c:=fun c hc'=>I.seq_ne ha (hf c hc')
  have nb:∀ c∈[z,TI,TO,i1,i2],b≠c:=fun c hc'=>I.seq_ne hb (hf c hc')
  have DD:=D a b na nb
  have hT:s.TypeIs (.ref z) "zip" := ⟨_,hz,rfl⟩
  unfold pyNext
  refine wpAny_bind (wpAny_attempt (wpAny_callSpecial?_slot (name:=Str.ofString "__next__") hT PySem.F.slot_zip_next (wpAny_call_entry PySem.F.slot_zip_next hT PySem.F.entry_zip_next
   (aEB (I.ok.hd hc) DD (mJ k1 X.prog X.w i1 a its.toArray (na i1 (by simp))) (mJ k2 X.prog X.w i2 b jts.toArray (nb i2 (by simp))) hz hTI hTO ⟨h1,pa⟩ ⟨h2,pb⟩ (by rw [Qj,Qj]; omega) fun h' e kp he=>?_) (PySem.F.args_zip_next_1 _))))
  obtain ⟨oe,hoe,hce⟩:=he
  refine wpAny_bind (wpAny_isInstance (T := "StopIteration") (b:=true) ⟨oe,hoe,hce⟩ isSubtype_stop (wpAny_pure ⟨rfl,?_⟩))
  refine I.turnedL (t':=s.toks) [z,TO,i1,i2] (fun c o hc' e=>?_) (fun c hc'=>hf c ?_)
  ·simp only [Qm,Qo,or_false,not_or] at hc'
   exact kp c o hc'.1 hc'.2.1 hc'.2.2.1 hc'.2.2.2 e
  ·simp only [Qm,Qo,or_false] at hc' ⊢
   rcases hc' with r | r | r | r
   ·exact .inl r
   ·exact .inr (.inr (.inl r))
   ·exact .inr (.inr (.inr (.inl r)))
   ·exact .inr (.inr (.inr (.inr r)))
 self:=fun _ _ _ _ _ st h=>wpAny_pyIter_zip st.1 h
abbrev zh1 (k1:Sk) (h:Heap) (a:Addr):Heap:=h.push (itK k1 a)
abbrev zh2 (k1 k2:Sk) (h:Heap) (a b:Addr):Heap:=(zh1 k1 h a).push (itK k2 b)
abbrev zh3 (k1 k2:Sk) (h:Heap) (a b:Addr):Heap:=(zh2 k1 k2 h a b).push { cls:=.type "tuple",data:=.seq #[.ref h.objs.size,.ref (zh1 k1 h a).objs.size] }
abbrev zh4 (k1 k2:Sk) (h:Heap) (a b:Addr):Heap:=(zh3 k1 k2 h a b).push { cls:=.type "tuple",data:=.seq #[.none,.none] }
abbrev zh5 (k1 k2:Sk) (h:Heap) (a b:Addr):Heap:=(zh4 k1 k2 h a b).push { cls:=.type "zip",data:=.fields #[.none,.bool false,.bool false,.ref (zh2 k1 k2 h a b).objs.size,.ref (zh3 k1 k2 h a b).objs.size] }
theorem vY (k1 k2:Sk) (a b:Addr) (xs ys:Array Value) :
  Meets (Builtin.«zip.__new__» ⟨[.type "zip",.ref a,.ref b],[]⟩) (fun _ R s=>AtK k1 s.heap a xs/\AtK k2 s.heap b ys/\R (.ok (.ret (.ref (zh4 k1 k2 s.heap a b).objs.size))) { s with heap:=zh5 k1 k2 s.heap a b }) :=
 .of_wp fun prog w A R s h=>by
  obtain ⟨hp,g,d,tk,os⟩:=s
  obtain ⟨hl1,hl2,h⟩:=h
  have hsub:=sub_zip
  have hA:AtK k1 (Shared.heap ⟨hp,g,d,tk,os⟩) a xs:=hl1
  have hB:AtK k2 (Shared.heap ⟨hp.push (itK k1 a),g,d,tk,os⟩) b ys:=AtK.at hl2 fun o e=>Qa _ e
  wp_walk using oK hA,oK hB
  exact ⟨_,rfl,h⟩
section
variable {X:Cx} {es:List Expr} {x1:Nat} {tpos:Pos}
def aF0 (K:PySem.W.Frag) (k1 k2:Sk) (ta:TA):TI:=fun σ H R=>ta σ H fun vs H1=>∃ a b xs ys,vs = [.ref a,.ref b]/\SqK k1 K H1 a xs/\SqK k2 K H1 b ys/\R (Itz K k1 k2 a b) H1
theorem lQ (k1 k2:Sk) {a b:Expr} {ta:TA} {p pos:Pos} (hg:Gl X "zip") (hm:X.mg "zip" = none) (ha:PA X [a,b] ta) (hs:starEach [a,b] X.env = [(false,eval a X.env),(false,eval b X.env)]:=by rfl) (hs2:starEach [b] X.env = [(false,eval b X.env)]:=by rfl) :
  PI X (.Tuple es x1 tpos) (.Call (.Name "zip" p) [a,b] [] pos) (aF0 X.K k1 k2 ta):=by
 intro pins s σ H R I h
 refine Call_ (hJ (u:=.type "zip") I hg hm (by decide +kernel) (PyProof.Rows.callWith_type1 (thn (ha pos pins s σ H _ I h) fun us s1 hx9=>?_) (by rw [hs,hs2]) (by rw [hs2]; rfl)))
 obtain ⟨vs,H1,I1,r1,q1⟩:=hx9
 obtain ⟨l1,l2,xs,ys,rfl,hA,hB,q⟩:=q1
 obtain ⟨u1,u2,rfl,r1',r2'⟩:=kE r1
 cases r1'
 cases r2'
 obtain ⟨its,rv,pa⟩:=I1.seqK hA
 obtain ⟨jts,rw',pb⟩:=I1.seqK hB
 refine callType_new PySem.F.called_zip (by decide) (PySem.F.typeCall_zip_2 _ _) (PySem.F.newCall_zip_2 _ _) (fun obj=>PySem.F.args_object_init_3 obj _ _) PySem.F.entry_zip_new (vY k1 k2 l1 l2 its.toArray jts.toArray) ⟨pa,pb,?_⟩
 have n1:(zh1 k1 s1.heap l1).objs.size=s1.heap.objs.size+1:=Jg ..
 have n2:(zh2 k1 k2 s1.heap l1 l2).objs.size=s1.heap.objs.size+2:=by rw [Jg,n1]
 have n3:(zh3 k1 k2 s1.heap l1 l2).objs.size=s1.heap.objs.size+3:=by rw [Jg,n2]
 have n4:(zh4 k1 k2 s1.heap l1 l2).objs.size=s1.heap.objs.size+4:=by rw [Jg,n3]
 have g5:IsZip (zh5 k1 k2 s1.heap l1 l2) (zh4 k1 k2 s1.heap l1 l2).objs.size (zh2 k1 k2 s1.heap l1 l2).objs.size (zh3 k1 k2 s1.heap l1 l2).objs.size .none:=Qi _ rfl
 have g4:IsPair (zh5 k1 k2 s1.heap l1 l2) (zh3 k1 k2 s1.heap l1 l2).objs.size .none .none:=Qa _ (Qi _ rfl)
 have g3:IsPair (zh5 k1 k2 s1.heap l1 l2) (zh2 k1 k2 s1.heap l1 l2).objs.size (.ref s1.heap.objs.size) (.ref (zh1 k1 s1.heap l1).objs.size):=Qa _ (Qa _ (Qi _ rfl))
 have g2:ItK k2 (zh5 k1 k2 s1.heap l1 l2) (zh1 k1 s1.heap l1).objs.size l2 0:=(ItK.new k2 (zh1 k1 s1.heap l1) l2).at fun o e=>Qa _ (Qa _ (Qa _ e))
 have g1:ItK k1 (zh5 k1 k2 s1.heap l1 l2) s1.heap.objs.size l1 0:=(ItK.new k1 s1.heap l1).at fun o e=>Qa _ (Qa _ (Qa _ (Qa _ e)))
 have kp:∀ c o,s1.heap.get? c=some o->(zh5 k1 k2 s1.heap l1 l2).get? c=some o:=fun c o e=>Qa _ (Qa _ (Qa _ (Qa _ (Qa _ e))))
 refine ⟨⟨_,g5,rfl⟩,wpAny_pyIter_zip (f0:=.none) g5 ?_⟩
 rw [n1,n2,n3,n4] at *
 have I2:Inv X pins σ H1 { s1 with heap:=zh5 k1 k2 s1.heap l1 l2 }:=I1.kept (t':=s1.toks) kp
 refine ⟨s1.heap.objs.size+4,[s1.heap.objs.size+4,s1.heap.objs.size+2,s1.heap.objs.size+3,s1.heap.objs.size,s1.heap.objs.size+1],_,_,H1,rfl,I2,aB0 k1 k2 l1 l2 _ _ _ _ _ ?_,⟨g5,g3,⟨_,_,g4⟩,g1,g2⟩,fun c hc=>?_,q⟩
 ·intro m1 m2 h1 h2
  have d:∀ i j:Nat,i≠j->s1.heap.objs.size+i≠s1.heap.objs.size+j:=fun i j h=>by omega
  exact ⟨d 2 4 (by decide),d 3 4 (by decide),d 0 4 (by decide),d 1 4 (by decide),d 2 3 (by decide),d 2 0 (by decide),d 2 1 (by decide),d 3 0 (by decide),d 3 1 (by decide),d 0 1 (by decide),
   h1 _ (by simp),h1 _ (by simp),h1 _ (by simp),h1 _ (by simp),h2 _ (by simp),h2 _ (by simp),h2 _ (by simp),h2 _ (by simp)⟩
 ·have hc':s1.heap.objs.size<=c:=by
   simp only [Qm,Qo,or_false] at hc
   rcases hc with r | r | r | r | r
   ·rw [r]; exact Jx _ _
   ·rw [r]; exact Jx _ _
   ·rw [r]; exact Jx _ _
   ·rw [r]; exact Qh _
   ·rw [r]; exact Jx _ _
  exact I1.fpOk hc' (I1.hok.fresh hc')
end
open PySem.AutoSeq1 (wpAny_loadPart')
theorem sE (l b:Addr) (items items2:Array Value) (n n2:Nat) (dd dd2:Option Addr) (sl sl2:Array (Option Value)) (hc0:items.isEmpty=true) :
  Meets (Builtin.«tuple.__add__» ⟨[.ref l,.ref b],[]⟩) (fun _ R s=>s.heap.get? l=some { cls:=.type "tuple",dict:=dd,data:=.seq items n,slots:=sl }/\s.heap.get? b=some { cls:=.type "tuple",dict:=dd2,data:=.seq items2 n2,slots:=sl2 }/\R (.ok (.ret (Value.ref b))) s) :=
 .of_wp fun prog w A R s h=>by
  obtain ⟨hp,g,d,tk,os⟩:=s
  obtain ⟨hl,hb,h⟩:=h
  have f1:=AutoSeq1.idx_int
  have f2:=AutoSeq1.sub_tuple_tuple
  wp_walk using wpAny_loadPart' hl,wpAny_loadPart' hb
  exact ⟨_,rfl,h⟩
section
variable {X:Cx}
theorem aDl:OpR X (binaryOp .Add) (fun x y H Q=>∃ a b xs ys,x=.ref a/\y=.ref b/\SqT X.K H a xs/\SqT X.K H b ys/\xs.length+ys.length<=sizeLine/\∀ p H',aE H H'->SqT X.K H' p (xs++ys)->Q (.ref p) H'):=by
 intro pins s σ H x y v u Q I rx ry h
 obtain ⟨a,b,xs,ys,rfl,rfl,ha,hb,hz,q⟩:=h
 by_cases hx:xs = []
 ·subst hx
  cases rx
  cases ry
  obtain ⟨its,r1,⟨⟨cls,dd,data,sl⟩,ho,hc,n,hd⟩,_⟩:=I.tuple ha
  obtain ⟨its2,r2,⟨⟨cls2,dd2,data2,sl2⟩,ho2,hc2,n2,hd2⟩,_⟩:=I.tuple hb
  simp only at hc hd hc2 hd2
  subst hc hd hc2 hd2
  cases r1
  exact concat_meets ⟨_,ho,rfl⟩ ⟨_,ho2,rfl⟩ noFill_tuple_add seq_tuple_add PySem.F.slot_tuple_add PySem.F.entry_tuple_add (PySem.F.args_tuple_add_2 _ _)
   (sE a b _ _ n n2 dd dd2 sl sl2 rfl) ⟨ho,ho2,⟨.ref b,H,I,rfl,q b H (aE.refl H) hb⟩⟩
 ·refine aDh pins s σ H _ _ v u Q I rx ry ⟨a,b,xs,ys,rfl,rfl,ha,hb,hx,hz,fun e=>?_,fun e p hp=>?_⟩
  ·subst e
   exact q a H (aE.refl H) (by rw [Zr]; exact ha)
  ·exact q p _ (aE.new hp) (SqT.of aC)
theorem lH {prog:Program} {w:World} {A:Around} {E:Value->Shared->Prop} {s:Shared} {t sl:Addr} {items:Array Value} {vl vu:Value} {lo hi:Option Int} {Q:Value->Shared->Prop} (ht:IsTup s.heap t items) (hs:s.heap.IsSliceOf sl vl vu .none) (pl:IsPart vl lo) (pu:IsPart vu hi)
  (hw:HT.sIx items.size 0 lo=0/\HT.sIx items.size items.size hi=items.size) (h:Q (.ref t) s):wpAny (model prog w) A (getItem (.ref t) (.ref sl)) Q E s:=by
 obtain ⟨os,hos,hcs,hds⟩:=id hs
 have hTs:s.TypeIs (.ref sl) "slice" := ⟨os,hos,hcs⟩
 unfold getItem
 try with_reducible refine wpAny_holding ?_
 first | refine wpAny_bind (wpAny_pure ?_) | skip
 refine wpAny_bind (wpAny_sequenceKey ht.typeIs (by decide) ?_)
 refine wpAny_bind (wpAny_callSpecial?_slot (name:=Str.ofString "__getitem__") ht.typeIs PyProof.Rows.slot_tuple_getitem
  (wpAny_call_entry PyProof.Rows.slot_tuple_getitem ht.typeIs entry_tuple_getitem ?_ (args_tuple_getitem _ _)))
 refine wpAny_bind (m:=Builtin.Tuple.tupleItemsOf (.ref t)) (tupleItemsOf_ ht ?_)
 refine wpAny_bind (wpAny_typeOf hTs ?_)
 rw [if_pos (by decide)]
 refine wpAny_bind (HT.sliceApplied_gen hs pl pu ?_)
 have hyes:(((HT.sIx items.size 0 lo:Nat):Int)==0 && (1:Int)==1 && (HT.sIx items.size items.size hi - HT.sIx items.size 0 lo)==items.size)=true:=by
  rw [hw.1,hw.2]; simp
 show wpAny _ _ (if (((HT.sIx items.size 0 lo:Nat):Int)==0 && (1:Int)==1 && (HT.sIx items.size items.size hi - HT.sIx items.size 0 lo)==items.size)=true then _ else _) _ _ s
 rw [if_pos hyes]
 unfold Builtin.Tuple.tupleIsExact
 refine wpAny_bind (wpAny_bind (wpAny_typeOf ht.typeIs (wpAny_pure ?_)))
 refine wpAny_ite_split (fun _=>wpAny_bind (wpAny_rule (wpAny_pure ⟨_,rfl,wpAny_pure h⟩))) (fun hab=>absurd (by rfl) hab)
theorem uI:SlR X (fun x lo hi H Q=>∃ a xs,x=.ref a/\SqT X.K H a xs/\∀ p H',aE H H'->SqT X.K H' p (kG xs lo hi)->Q (.ref p) H'):=by
 intro pins s σ H x v vl vu lo hi sl Q I rx hs pl pu h
 obtain ⟨a,xs,rfl,hx,q⟩:=h
 by_cases hw:HT.sIx xs.length 0 lo=0/\HT.sIx xs.length xs.length hi=xs.length
 ·cases rx
  obtain ⟨its,r,ht,hz⟩:=I.tuple hx
  have hlen:its.toArray.size=xs.length:=by rw [Qj]; exact r.length.symm
  refine ⟨"tuple",_,PyProof.Rows.slot_tuple_getitem.lookup,ht.typeIs,?_⟩
  refine lH ht hs pl pu (by rw [hlen]; exact hw) ⟨.ref a,H,I,rfl,q a H (aE.refl H) ?_⟩
  have e:kG xs lo hi=xs:=by
   unfold kG
   rw [hw.1,hw.2,Wi,Wv,Js]
  rw [e]; exact hx
 ·exact aEv pins s σ H _ v vl vu lo hi sl Q I rx hs pl pu ⟨a,xs,rfl,hx,hw,fun p hp=>q p _ (aE.new hp) (SqT.of aC)⟩
theorem uJ (xs:List V) (k:Nat):kG xs none (some (k:Int))=xs.take k:=by
 unfold kG
 rw [HT.sIx_none,HT.sIx_nat,Wi,Wv]
 by_cases h:k<=xs.length
 ·rw [Yh h]
 ·rw [Yy (by omega),Jf (Qh _),Jf (by omega)]
theorem aA1 (xs:List V) (k:Nat):kG xs (some (k:Int)) none=xs.drop k:=by
 unfold kG
 rw [HT.sIx_none,HT.sIx_nat]
 by_cases h:k<=xs.length
 ·rw [Yh h,Jf (by rw [Xd]; exact Qh _)]
 ·rw [Yy (by omega),Wb (Qh _),Wb (by omega),List.take_nil]
end
def aAe (N frn:List Str) (fr:List Nat):Bool:=frn.length==fr.length && (frn.zip fr).all fun y=>N[y.2]?==some y.1
theorem aV {X:Cx} {scope:Scope} {own frn:List Str} {fr:List Nat} (sc:Scope) (N:List Str) (h1:X.env.scope=sc) (h2:X.N=N) (h:(nQ sc scope own frn && aAe N frn fr)=true):CompOk X scope own fr frn:=by
 rw [Jc] at h
 obtain ⟨ha,hb⟩:=h
 unfold aAe at hb
 simp only [Jc,beq_iff_eq,Jd] at hb
 refine ⟨by rw [h1]; exact ha,fun k x hk=>?_,hb.1.symm⟩
 have hlt:k < fr.length:=by rw [<- hb.1]; exact (Qd.mp hk).1
 refine ⟨fr[k],Qc hlt,?_⟩
 have hm:(x,fr[k])∈frn.zip fr:=by
  refine Qe (i:=k) ?_
  rw [Jn]
  exact ⟨hk,Qc hlt⟩
 rw [h2]
 exact hb.2 _ hm
section
variable {J:It} {own:Nat} {fr:List Nat} {g:TG} {tt:TT} {te:TE} {σ:St} {H:Hp} {Q:Hp->List V->Prop}
theorem kY (n:Nat) (hn:n<=sizeLine) (SH:St->Prop) (Pv:Nat->List V->Hp->Prop) (hσ:SH (blk own fr σ)) (h0:Pv 0 [] H) (hlen:∀ i ys H,Pv i ys H->ys.length<=i)
  (hstop:∀ ys H,Pv n ys H->J.stop n H) (hgo:∀ i ys H,i < n->Pv i ys H->J.go i H)
  (hs:∀ i ys σ x H H',i < n->SH σ->Pv i ys H->J.yld i H x H'->ys.length < sizeLine->g x σ H' fun σ2 H2=>tt σ2 H2 fun b H3=>if b=true then te σ2 H3 fun y H4=>ys.length < sizeLine/\SH σ2/\Pv (i+1) (ys++[y]) H4 else SH σ2/\Pv (i+1) ys H3)
  (hd:∀ ys H,Pv n ys H->Q H ys) :
  ∃ W:Nat->Nat->List V->St->Hp->Prop,(∃ m,W 0 m [] (blk own fr σ) H)/\∀ i m ys σ' H,W i m ys σ' H ->
   (J.stop i H/\Q H ys) ∨
   (J.go i H/\∃ N:List V->St->Hp->Prop,(∀ ys' σ2 H2,N ys' σ2 H2->∃ m',m' < m/\W (i+1) m' ys' σ2 H2) /\
    ∀ x H',J.yld i H x H'->g x σ' H' fun σ2 H2=>tt σ2 H2 fun b H3=>if b=true then te σ2 H3 fun y H4=>ys.length < sizeLine/\N (ys++[y]) σ2 H4 else N ys σ2 H3):=by
 refine ⟨fun i m ys σ' H=>m=n - i/\i<=n/\SH σ'/\Pv i ys H,⟨n,by simp,Jo _,hσ,h0⟩,?_⟩
 rintro i m ys σ' H ⟨rfl,hi,sh,p⟩
 by_cases hlt:i < n
 ·refine .inr ⟨hgo i ys H hlt p,fun ys' σ2 H2=>SH σ2/\Pv (i+1) ys' H2,fun ys' σ2 H2 ⟨e,q⟩=>⟨n - (i+1),by omega,rfl,hlt,e,q⟩,fun x H' y=>?_⟩
  exact hs i ys σ' x H H' hlt sh p y (by have:=hlen i ys H p; omega)
 ·have e:i=n:=by omega
  subst e
  exact .inl ⟨hstop ys H p,hd ys H p⟩
theorem gY {K:PySem.W.Frag} {a:Addr} {xs:List V} (SH:St->Prop) (Pv:Nat->List V->Hp->Prop) (hn:xs.length<=sizeLine) (hσ:SH (blk own fr σ)) (h0:Pv 0 [] H) (hlen:∀ i ys H,Pv i ys H->ys.length<=i) (hl:∀ i ys H,Pv i ys H->SqT K H a xs)
  (hs:∀ i ys σ x H,xs[i]?=some x->SH σ->Pv i ys H->ys.length < sizeLine->g x σ H fun σ2 H2=>tt σ2 H2 fun b H3=>if b=true then te σ2 H3 fun y H4=>ys.length < sizeLine/\SH σ2/\Pv (i+1) (ys++[y]) H4 else SH σ2/\Pv (i+1) ys H3)
  (hd:∀ ys H,Pv xs.length ys H->Q H ys) :
  ∃ W:Nat->Nat->List V->St->Hp->Prop,(∃ m,W 0 m [] (blk own fr σ) H)/\∀ i m ys σ' H,W i m ys σ' H ->
   ((Itt K a).stop i H/\Q H ys) ∨
   ((Itt K a).go i H/\∃ N:List V->St->Hp->Prop,(∀ ys' σ2 H2,N ys' σ2 H2->∃ m',m' < m/\W (i+1) m' ys' σ2 H2) /\
    ∀ x H',(Itt K a).yld i H x H'->g x σ' H' fun σ2 H2=>tt σ2 H2 fun b H3=>if b=true then te σ2 H3 fun y H4=>ys.length < sizeLine/\N (ys++[y]) σ2 H4 else N ys σ2 H3):=by
 refine kY xs.length hn SH Pv hσ h0 hlen (fun ys H p=>⟨xs,hl _ _ _ p,Qh _⟩) (fun i ys H hi p=>⟨xs,xs[i],hl _ _ _ p,Qc hi⟩) (fun i ys σ x H H' hi sh p y hz=>?_) hd
 obtain ⟨e,y⟩:=y
 subst e
 exact hs i ys σ x _ (y xs (hl _ _ _ p)) sh p hz
theorem aA2 {K:PySem.W.Frag} {a:Addr} {xs:List V} (SH:St->Prop) (Pv:Nat->List V->Hp->Prop) (hn:xs.length<=sizeLine) (hσ:SH (blk own fr σ)) (h0:Pv 0 [] H) (hlen:∀ i ys H,Pv i ys H->ys.length<=i) (hl:∀ i ys H,Pv i ys H->SqL K H a xs)
  (hs:∀ i ys σ x H,xs[i]?=some x->SH σ->Pv i ys H->ys.length < sizeLine->g x σ H fun σ2 H2=>tt σ2 H2 fun b H3=>if b=true then te σ2 H3 fun y H4=>ys.length < sizeLine/\SH σ2/\Pv (i+1) (ys++[y]) H4 else SH σ2/\Pv (i+1) ys H3)
  (hd:∀ ys H,Pv xs.length ys H->Q H ys) :
  ∃ W:Nat->Nat->List V->St->Hp->Prop,(∃ m,W 0 m [] (blk own fr σ) H)/\∀ i m ys σ' H,W i m ys σ' H ->
   ((Itl K a).stop i H/\Q H ys) ∨
   ((Itl K a).go i H/\∃ N:List V->St->Hp->Prop,(∀ ys' σ2 H2,N ys' σ2 H2->∃ m',m' < m/\W (i+1) m' ys' σ2 H2) /\
    ∀ x H',(Itl K a).yld i H x H'->g x σ' H' fun σ2 H2=>tt σ2 H2 fun b H3=>if b=true then te σ2 H3 fun y H4=>ys.length < sizeLine/\N (ys++[y]) σ2 H4 else N ys σ2 H3):=by
 refine kY xs.length hn SH Pv hσ h0 hlen (fun ys H p=>⟨xs,hl _ _ _ p,Qh _⟩) (fun i ys H hi p=>⟨xs,xs[i],hl _ _ _ p,Qc hi⟩) (fun i ys σ x H H' hi sh p y hz=>?_) hd
 obtain ⟨e,y⟩:=y
 subst e
 exact hs i ys σ x _ (y xs (hl _ _ _ p)) sh p hz
theorem eC {lo:Int} {n:Nat} (SH:St->Prop) (Pv:Nat->List V->Hp->Prop) (hn:n<=sizeLine) (hσ:SH (blk own fr σ)) (h0:Pv 0 [] H) (hlen:∀ i ys H,Pv i ys H->ys.length<=i)
  (hs:∀ i ys σ H,i < n->SH σ->Pv i ys H->ys.length < sizeLine->g (.int (lo+i)) σ H fun σ2 H2=>tt σ2 H2 fun b H3=>if b=true then te σ2 H3 fun y H4=>ys.length < sizeLine/\SH σ2/\Pv (i+1) (ys++[y]) H4 else SH σ2/\Pv (i+1) ys H3)
  (hd:∀ ys H,Pv n ys H->Q H ys) :
  ∃ W:Nat->Nat->List V->St->Hp->Prop,(∃ m,W 0 m [] (blk own fr σ) H)/\∀ i m ys σ' H,W i m ys σ' H ->
   ((Itr lo n).stop i H/\Q H ys) ∨
   ((Itr lo n).go i H/\∃ N:List V->St->Hp->Prop,(∀ ys' σ2 H2,N ys' σ2 H2->∃ m',m' < m/\W (i+1) m' ys' σ2 H2) /\
    ∀ x H',(Itr lo n).yld i H x H'->g x σ' H' fun σ2 H2=>tt σ2 H2 fun b H3=>if b=true then te σ2 H3 fun y H4=>ys.length < sizeLine/\N (ys++[y]) σ2 H4 else N ys σ2 H3):=by
 refine kY n hn SH Pv hσ h0 hlen (fun ys H p=>Qh _) (fun i ys H hi p=>hi) (fun i ys σ x H H' hi sh p y hz=>?_) hd
 obtain ⟨e,y⟩:=y
 subst e y
 exact hs i ys σ _ hi sh p hz
theorem pU {K:PySem.W.Frag} {k1 k2:Sk} {a b:Addr} {xs ys:List V} (SH:St->Prop) (Pv:Nat->List V->Hp->Prop) (hn:xs.length<=sizeLine) (heq:xs.length=ys.length) (hσ:SH (blk own fr σ)) (h0:Pv 0 [] H) (hlen:∀ i zs H,Pv i zs H->zs.length<=i) (hl:∀ i zs H,Pv i zs H->SqK k1 K H a xs/\SqK k2 K H b ys)
  (hs:∀ i zs σ x y p H,xs[i]?=some x->ys[i]?=some y->SH σ->Pv i zs H->H p=none->zs.length < sizeLine->g (.ref p) σ (upd H p (.tup [x,y])) fun σ2 H2=>tt σ2 H2 fun c H3=>if c=true then te σ2 H3 fun y H4=>zs.length < sizeLine/\SH σ2/\Pv (i+1) (zs++[y]) H4 else SH σ2/\Pv (i+1) zs H3)
  (hd:∀ zs H,Pv xs.length zs H->Q H zs) :
  ∃ W:Nat->Nat->List V->St->Hp->Prop,(∃ m,W 0 m [] (blk own fr σ) H)/\∀ i m ys σ' H,W i m ys σ' H ->
   ((Itz K k1 k2 a b).stop i H/\Q H ys) ∨
   ((Itz K k1 k2 a b).go i H/\∃ N:List V->St->Hp->Prop,(∀ ys' σ2 H2,N ys' σ2 H2->∃ m',m' < m/\W (i+1) m' ys' σ2 H2) /\
    ∀ x H',(Itz K k1 k2 a b).yld i H x H'->g x σ' H' fun σ2 H2=>tt σ2 H2 fun b H3=>if b=true then te σ2 H3 fun y H4=>ys.length < sizeLine/\N (ys++[y]) σ2 H4 else N ys σ2 H3):=by
 refine kY xs.length hn SH Pv hσ h0 hlen (fun zs H p=>⟨xs,ys,(hl _ _ _ p).1,(hl _ _ _ p).2,by rw [<- heq,Ww]⟩) (fun i zs H hi p=>⟨xs,ys,xs[i],ys[i]'(by omega),(hl _ _ _ p).1,(hl _ _ _ p).2,Qc hi,Qc (by omega)⟩) (fun i zs σ v H H' hi sh p y hz=>?_) hd
 obtain ⟨q,hq,rfl,hy⟩:=y
 obtain ⟨x,y,h1,h2,rfl⟩:=hy xs ys (hl _ _ _ p).1 (hl _ _ _ p).2
 exact hs i zs σ x y q H h1 h2 sh p hq hz
end
section
variable {X:Cx}
def aFn (i j:Int):Prop:=0 < j/\j < 1267650600228229401496703205376
theorem aB1:OpR X (binaryOp .FloorDiv) (rI aFn fun i j=>.int (i / j)):=opI fun i j _ _ _ _ _ hc q=>by
 have h1:(0:Int) < j:=hc.1
 have h2:j < 1267650600228229401496703205376:=hc.2
 refine floordiv_int (by omega) (by rw [Yl i (by omega)]; exact q) (.inl (PyProof.noPylong_of_log2 ?_))
 have h3:j.natAbs.log2 < 100:=(Nat.log2_lt (by omega)).mpr (by omega)
 omega
theorem nS {prog:Program} {w:World} {A:Around} {E:Value->Shared->Prop} {s:Shared} {sl:Addr} {tk:Tok} {n:Nat} {Q:Int×Int×Nat->Shared->Prop} (hs:s.heap.IsSliceOf sl .none .none (.int (-1) tk))
  (h:Q ((n:Int) - 1,-1,n) s):wpAny (model prog w) A (Builtin.Slice.sliceApplied (.ref sl) (pure (n:Int))) Q E s:=by
 obtain ⟨os,hos,hcs,hds⟩:=id hs
 unfold Builtin.Slice.sliceApplied Builtin.Slice.sliceFields
 refine wpAny_bind (wpAny_bind (wpAny_field hos hds (x:=.none) rfl (wpAny_bind (wpAny_field hos hds (x:=.none) rfl (wpAny_bind (wpAny_field hos hds (x:=.int (-1) tk) rfl (wpAny_pure ?_)))))))
 refine wpAny_bind (HT.slicePart_ (.int (-1) tk) ?_)
 show wpAny _ _ (if ((-1:Int)==0)=true then _ else _) _ _ s
 rw [if_neg (by decide)]
 refine wpAny_bind (HT.slicePart_ .none (wpAny_bind (HT.slicePart_ .none (wpAny_bind (wpAny_pure ?_)))))
 show wpAny _ _ (match Builtin.Slice.sliceAdjust none none (-1) (n:Int) with | (lo,hi)=>pure (lo,(-1:Int),Builtin.Slice.slicePlaces lo hi (-1))) _ _ s
 have e:Builtin.Slice.sliceAdjust none none (-1) (n:Int)=((n:Int) - 1,-1):=by simp [Builtin.Slice.sliceAdjust]
 rw [e]
 have e2:Builtin.Slice.slicePlaces ((n:Int) - 1) (-1) (-1)=n:=by
  unfold Builtin.Slice.slicePlaces
  rw [if_neg (by decide)]
  by_cases h0:n=0
  ·subst h0; decide
  ·rw [if_pos (by omega)]
   have:((n:Int) - 1 - -1 - 1) / (- -1)+1=n:=by rw [show (- -1:Int)=1 from rfl,Wt]; omega
   rw [this]; simp
 show wpAny _ _ (pure ((n:Int) - 1,(-1:Int),Builtin.Slice.slicePlaces ((n:Int) - 1) (-1) (-1))) _ _ s
 rw [e2]
 exact wpAny_pure h
theorem vZ {α β:Type} {f g:α->Option β}:∀ {l:List α},(∀ x∈l,f x=g x)->l.filterMap f=l.filterMap g
 | [],_=>rfl
 | x::r,h=>by rw [Xv,Xv,h x (Qq ..),vZ fun y hy=>h y (Qr _ hy)]
theorem wA (xs:Array Value):((List.range xs.size).filterMap fun (k:Nat)=>xs[((xs.size:Int) - 1+(k:Int)*(-1)).toNat]?).toArray=xs.toList.reverse.toArray:=by
 have h:=HT.pick_gen xs.toList.reverse.toArray 0 xs.size
 have e:(List.range xs.size).filterMap (fun (k:Nat)=>xs[((xs.size:Int) - 1+(k:Int)*(-1)).toNat]?)=(List.range xs.size).filterMap (fun (m:Nat)=>xs.toList.reverse.toArray[(((0:Nat):Int)+(m:Int)*1).toNat]?):=by
  refine vZ fun k hk=>?_
  have hk':=Jr.mp hk
  have h1:((xs.size:Int) - 1+(k:Int)*(-1)).toNat=xs.size - 1 - k:=by omega
  have h2:(((0:Nat):Int)+(k:Int)*1).toNat=k:=by omega
  rw [h1,h2]
  simp only [List.getElem?_toArray]
  rw [Zd (by simpa using hk')]
  simp
 rw [e,h]
 congr 1
 rw [Wi,Jf (by simp)]
theorem mK {prog:Program} {w:World} {A:Around} {E:Value->Shared->Prop} {s:Shared} {t sl:Addr} {items:Array Value} {tk:Tok} {Q:Value->Shared->Prop} (ht:IsTup s.heap t items) (hs:s.heap.IsSliceOf sl .none .none (.int (-1) tk))
  (h:Q (.ref s.heap.objs.size) { s with heap:=s.heap.push { cls:=.type "tuple",data:=.seq items.toList.reverse.toArray } }) (hsz:items.size<=sizeLine):wpAny (model prog w) A (getItem (.ref t) (.ref sl)) Q E s:=by
 have htake:sizeOk (.seq items.toList.reverse.toArray):=by
  show items.toList.reverse.toArray.size<=sizeLine
  rw [Qj,Jt,Array.length_toList]
  exact hsz
 obtain ⟨os,hos,hcs,hds⟩:=id hs
 have hTs:s.TypeIs (.ref sl) "slice" := ⟨os,hos,hcs⟩
 unfold getItem
 try with_reducible refine wpAny_holding ?_
 first | refine wpAny_bind (wpAny_pure ?_) | skip
 refine wpAny_bind (wpAny_sequenceKey ht.typeIs (by decide) ?_)
 refine wpAny_bind (wpAny_callSpecial?_slot (name:=Str.ofString "__getitem__") ht.typeIs PyProof.Rows.slot_tuple_getitem
  (wpAny_call_entry PyProof.Rows.slot_tuple_getitem ht.typeIs entry_tuple_getitem ?_ (args_tuple_getitem _ _)))
 refine wpAny_bind (m:=Builtin.Tuple.tupleItemsOf (.ref t)) (tupleItemsOf_ ht ?_)
 refine wpAny_bind (wpAny_typeOf hTs ?_)
 rw [if_pos (by decide)]
 refine wpAny_bind (nS hs ?_)
 have hno:¬ ((((items.size:Int) - 1)==0 && (-1:Int)==1 && items.size==items.size)=true):=by simp
 show wpAny _ _ (if (((items.size:Int) - 1)==0 && (-1:Int)==1 && items.size==items.size)=true then _ else _) _ _ s
 rw [if_neg hno,wA]
 first
  | exact wpAny_bind (m:=Builtin.Tuple.tupleExact _) (wpAny_newObj_type (wpAny_pure ⟨_,rfl,wpAny_pure h⟩) htake)
  | exact wpAny_bind (m:=Builtin.Tuple.tupleExact _) (wpAny_newObj_type (wpAny_bind (wpAny_pure (wpAny_pure ⟨_,rfl,wpAny_pure h⟩))) htake)
  | exact wpAny_bind (wpAny_bind (m:=Builtin.Tuple.tupleExact _) (wpAny_newObj_type (wpAny_pure (wpAny_pure ⟨_,rfl,wpAny_pure h⟩)) htake))
  | exact wpAny_bind (wpAny_bind (m:=Builtin.Tuple.tupleExact _) (wpAny_newObj_type (wpAny_pure ⟨_,rfl,wpAny_pure h⟩) htake))
def aFo (K:PySem.W.Frag) (te ts:TE):TE:=fun σ H Q=>te σ H fun x H1=>ts σ H1 fun y H2=>y=.int (-1)/\∃ a xs,x=.ref a/\SqT K H2 a xs/\∀ p,H2 p=none->Q (.ref p) (upd H2 p (.tup xs.reverse))
theorem yJ {e st:Expr} {te ts:TE} {pos p2:Pos} (he:PE X e te) (hst:PE X st ts):PE X (.Subscript e (.Slice none none (some st) p2) pos) (aFo X.K te ts):=by
 intro pins s σ H Q I h
 refine Subscript_ (thn (he pins s σ H _ I h) fun v s1 hx9=>?_)
 obtain ⟨x,H1,I1,r1,q1⟩:=hx9
 refine wpAny_Slice ?_
 rw [evalPart_none]
 refine wpAny_pure ?_
 show wpAny _ _ (evalPart none X.env) _ _ s1
 rw [evalPart_none]
 refine wpAny_pure ?_
 show wpAny _ _ (evalPart (some st) X.env) _ _ s1
 rw [evalPart_some]
 refine thn (hst pins s1 σ H1 _ I1 q1) fun vst s3 hx9=>?_
 obtain ⟨y,H3,I3,r3,q3⟩:=hx9
 obtain ⟨rfl,a,xs,rfl,hx,q⟩:=q3
 obtain ⟨tk,rfl⟩:=r3
 cases r1
 have I4:Inv X pins σ H3 { s3 with heap:=s3.heap.push { cls:=.type "slice",data:=.fields #[.none,.none,.int (-1) tk] } }:=I3.kept (t':=s3.toks) fun b ob q=>Qa _ q
 obtain ⟨its,r,ht,hz⟩:=I4.tuple hx
 have hlen:=r.length
 have hg:wpAny (model X.prog X.w) X.A (getItem (.ref a) (.ref s3.heap.objs.size)) (EP X pins σ Q) X.xe { s3 with heap:=s3.heap.push { cls:=.type "slice",data:=.fields #[.none,.none,.int (-1) tk] } }:=by
  refine mK ht (Heap.IsSliceOf.new ..) ?_ (by rw [Qj]; omega)
  refine ⟨.ref _,_,I4.laid (t':=s3.toks) (o:=.tup xs.reverse) (fun b ob q=>Qa _ q) (Qh _) ?_,rfl,q _ (I4.hok.fresh (Qh _))⟩
  exact ⟨by rw [Jt]; exact hz,its.reverse,0,r.reverse,Qi _ rfl⟩
 show wpAny (model X.prog X.w) X.A (subscriptTail e (.Slice none none (some st) p2) (.ref a) (.ref s3.heap.objs.size)) (EP X pins σ Q) X.xe { s3 with heap:=s3.heap.push { cls:=.type "slice",data:=.fields #[.none,.none,.int (-1) tk] } }
 exact tail_any (ops:=[.ref a,.ref s3.heap.objs.size]) ht.typeIs PyProof.Rows.slot_tuple_getitem.lookup hg (by with_unfolding_all rfl)
end
def Vw (S:List Addr) (H:Hp):Hp:=fun b=>if b∈S then none else H b
theorem Vw.out {S:List Addr} {H:Hp} {b:Addr} (n:b∉S):Vw S H b=H b:=by unfold Vw; rw [if_neg n]
theorem Vw.sub {S:List Addr} {H:Hp}:aE (Vw S H) H:=fun b o h=>by
 by_cases z:b∈S
 ·unfold Vw at h; rw [if_pos z] at h; cases h
 ·rw [Vw.out z] at h; exact h
theorem Vw.keep {S:List Addr} {H H':Hp} (e:∀ b o,b∉S->H b=some o->H' b=some o):aE (Vw S H) (Vw S H'):=fun b o h=>by
 by_cases z:b∈S
 ·unfold Vw at h; rw [if_pos z] at h; cases h
 ·rw [Vw.out z] at h ⊢; exact e b o z h
theorem Vw.same {S:List Addr} {H H':Hp} (e:aE H H'):aE (Vw S H) (Vw S H'):=Vw.keep fun b o _ h=>e b o h
def Fx (S:List Addr) (H:Hp):Prop:=∀ b∈S,∃ xs,H b=some (.lst xs)
theorem Fx.same {S:List Addr} {H H':Hp} (f:Fx S H) (e:aE H H'):Fx S H':=fun b hb=>let ⟨xs,h⟩:=f b hb; ⟨xs,e b _ h⟩
theorem Fx.new {S:List Addr} {H:Hp} {p:Addr} (f:Fx S H) (h:H p=none):p∉S:=fun z=>by
 obtain ⟨xs,q⟩:=f p z
 rw [q] at h; cases h
theorem Fx.nil {H:Hp}:Fx [] H:=fun _ h=>(Qo h).elim
section
variable {K:PySem.W.Frag} {S:List Addr} {H H' H0:Hp}
theorem Fx.seqT {a:Addr} {xs:List V} (f:Fx S H) (h:SqT K H a xs):SqT K (Vw S H) a xs:=by
 rcases h with (h | ⟨o,h⟩) | h
 ·exact .inl (.inl (by rw [Vw.out fun z=>by obtain ⟨ys,q⟩:=f a z; rw [q] at h; cases h]; exact h))
 ·exact .inl (.inr ⟨o,by rw [Vw.out fun z=>by obtain ⟨ys,q⟩:=f a z; rw [q] at h; cases h]; exact h⟩)
 ·exact .inr h
theorem Vw.at {p:Addr} {o:HO} (f:Fx S H) (h:H p=none):Vw S (upd H p o) p=some o:=by rw [Vw.out (f.new h)]; exact aC
def Dn (K:PySem.W.Frag) (S:List Addr) (H:Hp) (x:V):Prop:=∃ d,Den K (Vw S H) d x
def DT (K:PySem.W.Frag) (S:List Addr) (n:Nat) (H:Hp) (x:V):Prop:=∃ a xs,x=.ref a/\SqT K (Vw S H) a xs/\xs.length<=n/\∀ y∈xs,Dn K S H y
def II (_:Hp) (x:V):Prop:=∃ i,x=.int i
class Mo (R:Hp->V->Prop):Prop where
 mo:∀ {H H':Hp} {v:V},aE H H'->R H v->R H' v
theorem Dn.keep {x:V} (h:Dn K S H x) (e:aE (Vw S H) (Vw S H')):Dn K S H' x:=let ⟨d,h⟩:=h; ⟨d,e.den _ _ h⟩
theorem Dn.same {x:V} (h:Dn K S H x) (e:aE H H'):Dn K S H' x:=h.keep (Vw.same e)
theorem DT.keep {n:Nat} {x:V} (h:DT K S n H x) (e:aE (Vw S H) (Vw S H')):DT K S n H' x:=let ⟨a,xs,h1,h2,h3,h4⟩:=h; ⟨a,xs,h1,e.seqT h2,h3,fun y hy=>(h4 y hy).keep e⟩
theorem DT.same {n:Nat} {x:V} (h:DT K S n H x) (e:aE H H'):DT K S n H' x:=h.keep (Vw.same e)
instance:Mo (Dn K S):=⟨fun e h=>Dn.same h e⟩
instance {n:Nat}:Mo (DT K S n):=⟨fun e h=>DT.same h e⟩
instance:Mo II:=⟨fun _ h=>h⟩
theorem aB2 (i:Int):Dn K S H (.int i):=⟨.int i,eJ.mpr rfl⟩
theorem II.dn {x:V} (h:II H x):Dn K S H x:=let ⟨i,h⟩:=h; h ▸ aB2 i
theorem aB3:∀ {xs:List V},(∀ x∈xs,Dn K S H x)->∃ ds,bA K (Vw S H) ds xs
 | [],_=>⟨[],bD.mpr rfl⟩
 | x::r,h=>by
  obtain ⟨d,hd⟩:=h x (Qq ..)
  obtain ⟨ds,hds⟩:=aB3 (xs:=r) fun y hy=>h y (Qr _ hy)
  exact ⟨d::ds,aX.mpr ⟨x,r,rfl,hd,hds⟩⟩
theorem DT.dn {n:Nat} {x:V} (h:DT K S n H x):Dn K S H x:=by
 obtain ⟨a,xs,rfl,h2,_,h4⟩:=h
 obtain ⟨ds,hds⟩:=aB3 h4
 exact ⟨.tuple ds,bH.mpr ⟨a,xs,rfl,h2,hds⟩⟩
def Al (H0:Hp) (S:List Addr) (te:TE) (σ:St) (R:Hp->V->Prop):Prop:=∀ H,aE H0 H->Fx S H->∀ Q:VK,(∀ v H',aE H H'->R H' v->Q v H')->te σ H Q
variable {σ:St} {R R':Hp->V->Prop} {te ta tb ts:TE} {t tr:TA} {tl th:TO}
theorem Al.mono (h:Al H0 S te σ R) (m:∀ H v,R H v->R' H v):Al H0 S te σ R':=fun H s f Q k=>h H s f Q fun v H' s' r=>k v H' s' (m H' v r)
theorem Al.i (h:Al H0 S te σ II):Al H0 S te σ (Dn K S):=h.mono fun _ _ r=>r.dn
theorem Al.d {n:Nat} (h:Al H0 S te σ (DT K S n)):Al H0 S te σ (Dn K S):=h.mono fun _ _ r=>r.dn
def aFp (K:PySem.W.Frag):R2:=fun x y H Q=>∃ a b xs ys,x=.ref a/\y=.ref b/\SqT K H a xs/\SqT K H b ys/\xs.length+ys.length<=sizeLine/\∀ p H',aE H H'->SqT K H' p (xs++ys)->Q (.ref p) H'
theorem wB {X:Cx} (hK:X.K=K):OpR X (binaryOp .Add) (aFp K):=by subst hK; exact aDl
def aF1 (K:PySem.W.Frag):V->Option Int->Option Int->Hp->VK->Prop:=fun x lo hi H Q=>∃ a xs,x=.ref a/\SqT K H a xs/\∀ p H',aE H H'->SqT K H' p (kG xs lo hi)->Q (.ref p) H'
theorem pV {X:Cx} (hK:X.K=K):SlR X (aF1 K):=by subst hK; exact uI
instance {a:Addr} {xs:List V}:Mo (fun H v=>v=.ref a/\SqT K H a xs):=⟨fun e h=>⟨h.1,e.seqT h.2⟩⟩
instance {x:V}:Mo (fun _ v=>v=x):=⟨fun _ h=>h⟩
end
open PySem.AutoSeq1 (wpAny_loadPart')
theorem nf {b:Bool} (h:b=false):decide (b=true)=false:=by rw [h]; rfl
theorem pW (l:Addr) (items:Array Value) (n:Nat) (dd:Option Addr) (sl:Array (Option Value)) (x:Int) (u:Tok) (h1:1 < x) (h2:x<=1000) (hne:items.isEmpty=false) (hz:items.size<=1000) :
  Meets (Builtin.«tuple.__mul__» ⟨[.ref l,.int x u],[]⟩) (fun _ R s=>s.heap.get? l=some { cls:=.type "tuple",dict:=dd,data:=.seq items n,slots:=sl }/\R (.ok (.ret (Value.ref s.heap.objs.size))) { s with heap:=s.heap.push { cls:=Value.type "tuple",data:=Data.seq (List.foldl (fun x1 x2=>x1++x2) #[] (List.replicate x.toNat items)) },toks:=s.toks }) :=
 .of_wp fun prog w A R s h=>by
  obtain ⟨hp,g,d,tk,os⟩:=s
  obtain ⟨hl,h⟩:=h
  have f1:=AutoSeq1.idx_int
  have f2:=AutoSeq1.sub_tuple_tuple
  wp_walk using wpAny_loadPart' hl
  refine wpAny_ite_false (nf (show (decide (x < -2^63) || decide (x≥2^63))=false from by rw [decide_eq_false (show ¬ x < -2^63 by omega),decide_eq_false (show ¬ x≥2^63 by omega)]; rfl)) ?_
  wp_walk using wpAny_loadPart' hl
  refine wpAny_ite_false (nf (show (items.isEmpty || x==1)=false from by rw [hne,beq_eq_false_iff_ne.mpr (show x≠1 by omega)]; rfl)) ?_
  wp_walk using wpAny_loadPart' hl
  refine wpAny_ite_false (nf (show (decide (x<=0) || items.isEmpty)=false from by rw [hne,decide_eq_false (show ¬ x<=0 by omega)]; rfl)) ?_
  wp_walk using wpAny_loadPart' hl
  have hm:(items.size:Int)*x<=1000*1000:=Int.mul_le_mul (by omega) h2 (by omega) (by omega)
  refine wpAny_ite_false (decide_eq_false (show ¬ (items.size:Int)*x > (2^63 - 1) / 8 by omega)) ?_
  wp_walk using wpAny_loadPart' hl
  refine wpAny_ite_false (nf (show decide ((items.size:Int)*x > (sizeLine:Int))=false from decide_eq_false (by rw [sizeLine_eq]; omega))) ?_
  have hsz:¬ (List.foldl (fun x1 x2=>x1++x2) #[] (List.replicate x.toNat items)).size > sizeLine:=by
   have e:=kW items.toList x.toNat []
   rw [Zb] at e
   have e2:List.foldl (fun x1 x2=>x1++x2) #[] (List.replicate x.toNat items)=(List.replicate x.toNat items.toList).flatten.toArray:=e
   rw [e2,Qj,uF,Array.length_toList,sizeLine_eq]
   have:x.toNat*items.size<=1000*1000:=Nat.mul_le_mul (by omega) hz
   omega
  wp_walk using wpAny_loadPart' hl
  exact ⟨_,rfl,h⟩
theorem pX (l:Addr) (items:Array Value) (n:Nat) (dd:Option Addr) (sl:Array (Option Value)) (x:Int) (u:Tok) (h1:1 < x) (h2:x<=1000) (hne:items.isEmpty=true) :
  Meets (Builtin.«tuple.__mul__» ⟨[.ref l,.int x u],[]⟩) (fun _ R s=>s.heap.get? l=some { cls:=.type "tuple",dict:=dd,data:=.seq items n,slots:=sl }/\R (.ok (.ret (Value.ref l))) s) :=
 .of_wp fun prog w A R s h=>by
  obtain ⟨hp,g,d,tk,os⟩:=s
  obtain ⟨hl,h⟩:=h
  have f1:=AutoSeq1.idx_int
  have f2:=AutoSeq1.sub_tuple_tuple
  wp_walk using wpAny_loadPart' hl
  refine wpAny_ite_false (nf (show (decide (x < -2^63) || decide (x≥2^63))=false from by rw [decide_eq_false (show ¬ x < -2^63 by omega),decide_eq_false (show ¬ x≥2^63 by omega)]; rfl)) ?_
  wp_walk using wpAny_loadPart' hl
  exact ⟨_,rfl,h⟩
theorem iV:fillsNumberSlot (.type "tuple") "mul" = pure false :=
 PySem.fillsNumberSlot_seq (id := "tuple.__mul__") (r:=some (.builtin "tuple.__rmul__")) PySem.F.slot_tuple_mul.lookup (by decide +kernel) PySem.F.slot_tuple_rmul.lookup (by decide +kernel)
theorem mL:seqRepeat? (.type "tuple")=pure (some (.builtin "tuple.__mul__")):=by
 unfold seqRepeat?
 rw [PySem.seqSlot_of (T := "tuple") (name := "__mul__") (id := "tuple.__mul__") PySem.F.slot_tuple_mul.lookup (by decide +kernel),PySem.seqSlot_of (T := "tuple") (name := "__rmul__") (id := "tuple.__rmul__") PySem.F.slot_tuple_rmul.lookup (by decide +kernel)]
 rfl
theorem kJ (a:Int) (t:Tok) (l:Addr) (items:Array Value) (n:Nat) (dd:Option Addr) (sl:Array (Option Value)) :
  Meets (Builtin.«int.__rmul__» ⟨[.int a t,.ref l],[]⟩) (fun _ R s=>s.heap.get? l=some { cls:=.type "tuple",dict:=dd,data:=.seq items n,slots:=sl }/\R (.ok (.ret Value.notImplemented)) s) :=
 .of_wp fun prog w A R s h=>by
  obtain ⟨hp,g,d,tk,os⟩:=s
  obtain ⟨hl,h⟩:=h
  wp_walk using wpAny_loadPart' hl
  exact ⟨_,rfl,h⟩
def aFq (K:PySem.W.Frag):R2:=fun x y H Q=>∃ a k xs,x=.ref a/\y=.int k/\SqT K H a xs/\1 < k/\k<=1000/\xs.length<=1000/\∀ p H',aE H H'->SqT K H' p (List.replicate k.toNat xs).flatten->Q (.ref p) H'
theorem aDn {X:Cx} {K:PySem.W.Frag} (hK:X.K=K):OpR X (binaryOp .Mult) (aFq K):=by
 subst hK
 intro pins s σ H x y v u Q I rx ry h
 obtain ⟨a,k,xs,rfl,rfl,ha,h1,h2,hz,q⟩:=h
 cases rx
 obtain ⟨t,rfl⟩:=ry
 obtain ⟨its,r,⟨⟨cls,dd,data,sl⟩,ho,hc,n,hd⟩,hzz⟩:=I.tuple ha
 simp only at hc hd
 subst hc hd
 have hl:=r.length
 refine wpAny_binaryOp_repeat_ref (T := "tuple") (U := "int") (by decide) ⟨_,ho,rfl⟩ (fun s'=>typeIs_int s' k t) iV PySem.F.fills_int_mul PySem.F.slot_int_rmul mL PySem.F.slot_int_index.lookup
  (call_meets PySem.F.slot_int_rmul (typeIs_int s k t) PySem.F.entry_int_rmul (PySem.F.args_int_rmul_2 _ _) (kJ k t a its.toArray n dd sl) ⟨ho,rfl,⟨_,ho,rfl⟩,?_⟩)
 by_cases hx:xs = []
 ·subst hx
  cases r
  refine call_meets PySem.F.slot_tuple_mul ⟨_,ho,rfl⟩ PySem.F.entry_tuple_mul (PySem.F.args_tuple_mul_2 _ _) (pX a _ n dd sl k t h1 h2 rfl) ⟨ho,?_⟩
  exact ⟨.ref a,H,I,rfl,q a H (aE.refl H) (by rw [List.flatten_replicate_nil]; exact ha)⟩
 ·have hne:its.toArray.isEmpty=false:=by
   cases its with
   | nil=>cases r; exact absurd rfl hx
   | cons _ _=>rfl
  refine call_meets PySem.F.slot_tuple_mul ⟨_,ho,rfl⟩ PySem.F.entry_tuple_mul (PySem.F.args_tuple_mul_2 _ _) (pW a its.toArray n dd sl k t h1 h2 hne (by rw [Qj]; omega)) ⟨ho,?_⟩
  have hnew:List.foldl (fun x1 x2=>x1++x2) #[] (List.replicate k.toNat its.toArray)=(List.replicate k.toNat its).flatten.toArray:=by
   have:=kW its k.toNat []
   rw [Zb] at this
   exact this
  rw [hnew]
  have hlen:(List.replicate k.toNat xs).flatten.length<=sizeLine:=by
   rw [uF,sizeLine_eq]
   have:k.toNat*xs.length<=1000*1000:=Nat.mul_le_mul (by omega) hz
   omega
  refine ⟨.ref _,_,I.laid (t':=s.toks) (o:=.tup (List.replicate k.toNat xs).flatten) (fun b ob q=>Qa _ q) (Qh _) ?_,rfl,q _ _ (aE.new (I.hok.fresh (Qh _))) (SqT.of aC)⟩
  exact ⟨hlen,(List.replicate k.toNat its).flatten,0,r.rep k.toNat,Qi _ rfl⟩
section
variable {X:Cx} {pins:List (Addr×Obj)} {σ:St} {H:Hp} {s:Shared}
end
section
variable {K:PySem.W.Frag} {S:List Addr} {H H' H0:Hp} {E E':Hp->V->Prop}
def DTe (K:PySem.W.Frag) (S:List Addr) (E:Hp->V->Prop) (n:Nat) (H:Hp) (x:V):Prop:=∃ a xs,x=.ref a/\SqT K (Vw S H) a xs/\xs.length<=n/\∀ y∈xs,E H y
def LTe (S:List Addr) (E:Hp->V->Prop) (n:Nat) (H:Hp) (x:V):Prop:=∃ a xs,x=.ref a/\Vw S H a=some (.lst xs)/\xs.length<=n/\∀ y∈xs,E H y
instance {n:Nat} [m:Mo E]:Mo (DTe K S E n):=⟨fun e ⟨a,xs,h1,h2,h3,h4⟩=>⟨a,xs,h1,(Vw.same e).seqT h2,h3,fun y hy=>m.mo e (h4 y hy)⟩⟩
instance {n:Nat} [m:Mo E]:Mo (LTe S E n):=⟨fun e ⟨a,xs,h1,h2,h3,h4⟩=>⟨a,xs,h1,Vw.same e _ _ h2,h3,fun y hy=>m.mo e (h4 y hy)⟩⟩
variable {σ:St} {te ta tb ts:TE} {t tr:TA} {tl th:TO}
end
section
variable {env:Env} {lP es:List Expr} {k:Nat} {pos:Pos} {a b c:Expr}
end
def pY (sc scope:Scope) (z0:Str) (own:List Str) (frn:List Str):Bool :=
 scope.kind==.function && scope.names.all (fun y=>y.2 !=.cell || y.1==z0) && scope.names.all (fun y=>y.2 !=.local || scope.names.lookup y.1==some .local) &&
 scope.names.all (fun y=>y.2 !=.free || sc.names.lookup y.1==some .cell || sc.names.lookup y.1==some .free) && decide (own++frn).Nodup &&
 frn.all (fun x=>scope.names.lookup x==some .free) && scope.names.lookup z0==some .cell && scope.names.all (fun y=>y.2 !=.free || y.1 !=z0)
structure CompOk1 (X:Cx) (scope:Scope) (z0:Str) (own:List Str) (fr:List Nat) (frn:List Str):Prop where
 ck:pY X.env.scope scope z0 own frn=true
 ix:∀ (k:Nat) (x:Str),frn[k]?=some x->∃ j:Nat,fr[k]?=some j/\X.N[j]?=some x
 len:fr.length=frn.length
 cf:∀ (n:Nat) (cl:List (Str×Addr)),cellsFrom n scope.names cl=(z0,n)::cl
 pc:∀ h:Heap,pushCells h scope.names=h.push { cls:=.type "cell",data:=.cell none }
section
variable {X:Cx} {scope:Scope} {z0:Str} {own frn:List Str} {fr:List Nat}
end
section
variable {X:Cx} {scope:Scope} {z0:Str} {own frn:List Str} {fr:List Nat} {elt tg iter:Expr} {ifs:List Expr} {pos:Pos} {wi:TI} {g:TG} {tt:TT} {te:TE}
end
def aF2 (scope sc:Scope):Scope:={ scope with names:=scope.names.map fun (n,k)=>if (k==NameKind.free && sc.kind==.function && sc.names.lookup n==some .cell) then (n,NameKind.cell) else (n,k) }
section
variable {X:Cx}
theorem aA3 (hc:X.calm=true):eI X (.builtin "min") (fun xs H Q=>∃ (p:Addr) (ns:List Int),xs = [.ref p]/\SqL X.K H p (ns.map V.int)/\0 < ns.length/\∀ M,M∈ns->(∀ a∈ns,M<=a)->Q (.int M) H):=by
 intro pins s σ H xs us Q I r h
 obtain ⟨p,ns,rfl,hx,hne,q⟩:=h
 obtain ⟨u,rfl,rx⟩:=gB r
 cases rx
 obtain ⟨its,rv,pl,hz⟩:=I.list hx
 have hi:IntsAre its ns:=eY rv
 obtain ⟨xs,e⟩:=hi.allInts.items
 have hns:ns=xs.toList.map (·.1):=by
  rw [<- hi.numsOf,<- nums_intItems,<- e]
 have hsz:0 < xs.size:=by
  have h3:=hne; rw [hns,Qb,Array.length_toList] at h3; exact h3
 have hl:=pl.isList
 rw [e] at hl
 refine min_intList (I.ok.hd hc) hl hsz fun v h' tk hv hk=>?_
 obtain ⟨t,rfl⟩:=intItems_at hv
 obtain ⟨h1,h2⟩:=argBest_lt (numAt xs) (xs.size - 1)
 refine ⟨.int _,H,I.kept hk,⟨_,rfl⟩,q _ ?_ fun a ha=>?_⟩
 ·rw [hns,numAt_eq]; exact getD_mem (by rw [Qb,Array.length_toList]; omega)
 ·rw [hns] at ha
  obtain ⟨j,hj,rfl⟩:=mem_getD ha
  rw [Qb,Array.length_toList] at hj
  rw [<- numAt_eq]; exact h2 j (by omega)
end
theorem aD9:bootBuiltins "min" = some (.builtin "min"):=by decide +kernel
theorem aDo {K:PySem.W.Frag} {k1 k2:Sk} {a b:Addr} {xs ys:List V} {g:TG} {tb:TS} {D:Ends} {σ:St} {H:Hp} (Pv:Nat->St->Hp->Prop) (heq:xs.length=ys.length) (h0:Pv 0 σ H) (hl:∀ i σ H,i<=xs.length->Pv i σ H->SqK k1 K H a xs/\SqK k2 K H b ys)
  (hs:∀ i x y p σ H,xs[i]?=some x->ys[i]?=some y->Pv i σ H->H p=none->g (.ref p) σ (upd H p (.tup [x,y])) fun σ2 H2=>tb { D with nx:=Pv (i+1),ct:=Pv (i+1),bk:=D.nx } σ2 H2) (hd:∀ σ H,Pv xs.length σ H->D.nx σ H) :
  ∃ W:Nat->Nat->St->Hp->Prop,(∃ m,W 0 m σ H)/\∀ i m σ H,W i m σ H ->
   ((Itz K k1 k2 a b).stop i H/\D.nx σ H)∨((Itz K k1 k2 a b).go i H/\∃ N:St->Hp->Prop,(∀ σ' H',N σ' H'->∃ m',m' < m/\W (i+1) m' σ' H')/\∀ x H',(Itz K k1 k2 a b).yld i H x H'->g x σ H' fun σ2 H2=>tb { D with nx:=N,ct:=N,bk:=D.nx } σ2 H2):=by
 refine ⟨fun i m σ H=>m=xs.length - i/\i<=xs.length/\Pv i σ H,⟨xs.length,by simp,Jo _,h0⟩,?_⟩
 rintro i m σ H ⟨rfl,hi,p⟩
 obtain ⟨q1,q2⟩:=hl i σ H hi p
 by_cases hlt:i < xs.length
 ·refine .inr ⟨⟨xs,ys,xs[i],ys[i]'(by omega),q1,q2,Qc hlt,Qc (by omega)⟩,Pv (i+1),fun σ' H' p'=>⟨xs.length - (i+1),by omega,rfl,hlt,p'⟩,fun x H' y=>?_⟩
  obtain ⟨z,hz,rfl,hy⟩:=y
  obtain ⟨x,y,h1,h2,rfl⟩:=hy xs ys q1 q2
  exact hs i x y z σ _ h1 h2 p hz
 ·have e:i=xs.length:=by omega
  subst e
  exact .inl ⟨⟨xs,ys,q1,q2,by rw [<- heq,Ww]⟩,hd σ H p⟩
section
variable {P:Program} {w:World} {K:PySem.W.Frag} {mg:Str->Option Value} {base:Heap} {N:List Str} {qual:Str} {scope:Scope} {f:Addr} {cd:Value} {A:Around} {outer:List Env} {s0:Shared} {H0:Hp} {E:XK}
end
abbrev vbm:List Value:=[.type "ValueError",.type "Exception",.type "BaseException",.type "object"]
def qns:List Str:=["__init__", "__getattribute__", "__getattr__", "__class__"]
inductive TailN (h:Heap) (bmB:List Value):List Value->Prop
 | base:TailN h bmB bmB
 | own {A:Addr} {c0:Value} {dd:Option Addr} {cd:ClassData} {sl:Array (Option Value)} {mA:Str->Option Value} {tl:List Value} :
   h.get? A=some { cls:=c0,dict:=dd,data:=.cls cd,slots:=sl }->h.Ns cd.ns mA->(∀ n∈qns,mA n=none)->TailN h bmB tl->TailN h bmB (.ref A::tl)
def EcH (h:Heap) (C:Addr) (bm:List Value):Prop:=∃ N nm q bs hdct sn sub ab col dd k0 k1 k2 k3 k5 mN,h.get? C=some (excClassObj nm q C N bs bm hdct sn sub ab col dd k0 k1 k2 k3 k5 "ValueError.__new__")/\h.Ns N mN/\(∀ n∈qns,mN n=none)/\TailN h vbm bm
section
variable {M:Model} {prog:Program} {w:World} {A:Around} {E:Value->Shared->Prop} {h:Heap} {g:Array GenState} {d:Drawn} {t:Nat} {os:OsState} {a C:Addr} {o:Obj} {bm:List Value}
end
section
variable {X:Cx}
end
section
variable {P:Program} {w:World} {l:List Env} {H H':Hp} {s s':Shared} {E:XK} {a T C:Addr}
end
section
variable {X:Cx} {pins:List (Addr×Obj)} {σ:St} {H:Hp} {s s':Shared} {E:XK} {e:Value} {M:Model} {A:Around} {F:Value->Shared->Prop} {L:Addr}
end
section
variable {M:Model} {A:Around} {E:Value->Shared->Prop} {h:Heap} {g:Array GenState} {d:Drawn} {t:Nat} {os:OsState} {a C C':Addr} {oe:Obj} {bm bm':List Value}
end
section
variable {X:Cx} {k:Nat} {f:Addr} {fd:FuncData} {ps:List Str} {sp:Sp} {dvs:List V} {ds:List Value} {x:Str} {p pos apos:Pos} {e:Expr} {es:List Expr} {t:TA}
end
section
variable {X:Cx} {K:PySem.W.Frag}
end
structure PEo (X:Cx) (e:Expr) (t:TE):Prop where
 go:PE X e t
structure PAo (X:Cx) (es:List Expr) (t:TA):Prop where
 go:PA X es t
structure PSo (X:Cx) (st:Stmt) (t:TS):Prop where
 go:PS X st t
structure PSso (X:Cx) (sts:List Stmt) (t:TS):Prop where
 go:PSs X sts t
section
variable {X:Cx} {pos:Pos} {e a b:Expr} {es:List Expr} {te ta tb:TE} {t:TA} {st:Stmt} {lP:List Stmt} {ts us:TS}
end
def tDt (K:PySem.W.Frag) (Z:List Addr) (S:St->Prop) (d:PyData):TE:=fun σ H Q=>S σ/\Fx Z H/\∀ v H',aE H H'->Den K (Vw Z H') d v->Q v H'
def tDA (K:PySem.W.Frag) (Z:List Addr) (S:St->Prop) (ds:List PyData):TA:=fun σ H Q=>S σ/\Fx Z H/\∀ vs H',aE H H'->bA K (Vw Z H') ds vs->Q vs H'
structure Dt (X:Cx) (K:PySem.W.Frag) (Z:List Addr) (S:St->Prop) (e:Expr) (d:PyData):Prop where
 go:PE X e (tDt K Z S d)
structure DA (X:Cx) (K:PySem.W.Frag) (Z:List Addr) (S:St->Prop) (es:List Expr) (ds:List PyData):Prop where
 go:PA X es (tDA K Z S ds)
section
variable {X:Cx} {K:PySem.W.Frag} {Z:List Addr} {S:St->Prop} {te:TE} {pos:Pos} {e a b:Expr} {es:List Expr} {d:PyData} {ds:List PyData}
theorem PSso.ex {sts:List Stmt} {t:TS} {R:TS->Prop} (h:PSso X sts t) (r:R t):∃ t,PSs X sts t/\R t:=⟨t,h.go,r⟩
end
section
variable {X:Cx} {tg l:Expr} {body:List Stmt} {tl:TE} {g:TG} {tb:TS} {pos:Pos}
end
def lL:List Int->Nat
 | []=>0
 | k::r=>if k∈r then lL r else lL r+1
def kA (l:List Int):Nat:=lL l.reverse
theorem aA4 (l:List Int) (k:Int):kA (l++[k])=if k∈l then kA l else kA l+1:=by
 unfold kA
 rw [Wm]
 show lL (k::l.reverse)=_
 simp only [lL,Yz]
theorem pZ:∀ l:List Int,lL l<=l.length
 | []=>Qh _
 | k::r=>by
  have:=pZ r
  unfold lL
  split <;> simp <;> omega
theorem aDp (l:List Int):kA l<=l.length:=by
 have:=pZ l.reverse
 rwa [Jt] at this
theorem oM:∀ l:List Int,lL l=l.length↔l.Nodup
 | []=>by simp [lL]
 | k::r=>by
  have h1:=oM r
  have h2:=pZ r
  unfold lL
  rw [Xq,<- h1,Jv]
  by_cases hk:k∈r
  ·rw [if_pos hk]
   constructor
   ·intro h; omega
   ·intro h; exact absurd hk h.1
  ·rw [if_neg hk]
   constructor
   ·intro h; exact ⟨hk,by omega⟩
   ·intro h; omega
theorem yK (l:List Int):kA l=l.length↔l.Nodup:=by
 have h:=oM l.reverse
 rw [Jt] at h
 unfold kA
 rw [h]
 unfold List.Nodup
 rw [List.pairwise_reverse]
 constructor <;> intro h <;> exact h.imp fun z=>Ne.symm z
section
variable {prog:Program} {w:World} {A:Around} {E:Value->Shared->Prop} {s:Shared}
theorem aA5 {a:Addr} {S:Int->Bool} {n:Nat} {k:Int} {t:Tok} {Q:Bool->Shared->Prop} (hS:s.heap.SetOf (intKind prog w) a S n) (hroom:n+1 < scanBound)
  (h:∀ h',Heap.SameBut a s.heap h'->h'.SetOf (intKind prog w) a (fun k'=>S k' || decide (k'=k)) (if S k then n else n+1)->Q (!S k) { s with heap:=h',toks:=s.toks+1 }) :
  wpAny (model prog w) A (setAdd a (.int k t)) Q E s:=by
 have hkey:(intKind prog w).is k (.int k t)=true:=by simp [intKind,Value.isInt]
 unfold setAdd
 refine wpAny_bind ((intKind prog w).pyHash hkey ?_)
 exact wpAny_setAddHashed_of (s:={ s with toks:=s.toks+1 }) hkey rfl hS hroom fun h' hsb hS'=>h h' hsb hS'
theorem aB4 {I S:Addr} {fp wr:List Addr} {ns:List Int} {P:Nat->Value->Prop} {St:Nat->Heap->Prop} {R:Result->Shared->Prop} (W:Walks prog w A.in1 I fp wr ns.length P St)
  (hP:∀ i v,P i v->∃ k t,ns[i]?=some k/\v=.int k t) (hfp:∀ c∈fp,c≠S) (hwr:S∉wr) (hlen:ns.length+1 < scanBound) :
  ∀ (j i:Nat) (s:Shared),i+j=ns.length->St i s.heap->s.heap.SetOf (intKind prog w) S (fun k=>decide (k∈ns.take i)) (kA (ns.take i)) ->
   (∀ h' tk,h'.SetOf (intKind prog w) S (fun k=>decide (k∈ns)) (kA ns)->(∀ b o,b≠S->b∉wr->s.heap.get? b=some o->h'.get? b=some o)->R (.ok (.ret .none)) { s with heap:=h',toks:=tk }) ->
   codeAny (model prog w) A (.builtin "set.update.loop" ⟨[.ref S,.ref I],[]⟩) R s:=by
 intro j
 induction j with
 | zero =>
  intro i s hi st hS h
  have e:i=ns.length:=by omega
  subst e
  rw [Js] at hS
  refine aBY W st fun h' tk k=>h h' tk ?_ fun b o _ hb e=>k b o hb e
  obtain ⟨o,es,ep,t,e,c⟩:=hS
  exact ⟨o,es,ep,t,k _ _ hwr e,c⟩
 | succ j ih =>
  intro i s hi st hS h
  refine aBX W (i:=i) (by omega) st fun v h2 tk2 hv st2 k2=>?_
  obtain ⟨k,t,hk,rfl⟩:=hP i v hv
  have hS2:h2.SetOf (intKind prog w) S (fun k=>decide (k∈ns.take i)) (kA (ns.take i)):=by
   obtain ⟨o,es,ep,t,e,c⟩:=hS
   exact ⟨o,es,ep,t,k2 _ _ hwr e,c⟩
  have hd:=aDp (ns.take i)
  rw [Ja] at hd
  refine aA5 (s:={ s with heap:=h2,toks:=tk2 }) hS2 (by omega) fun h3 sb hS3=>?_
  have et:ns.take (i+1)=ns.take i++[k]:=by rw [Jh,hk]; rfl
  refine ih (i+1) _ (by omega) (W.frame _ _ _ st2 fun c hc o e=>(sb.2 c (hfp c hc)).trans e) ?_ fun h' tk hS' kp=>?_
  ·have e1:(fun k_1=>decide (k_1∈ns.take (i+1)))=(fun k'=>decide (k'∈ns.take i) || decide (k'=k)):=by
    funext k'
    rw [et]
    simp
   have e2:kA (ns.take (i+1))=if decide (k∈ns.take i)=true then kA (ns.take i) else kA (ns.take i)+1:=by
    rw [et,aA4]
    by_cases z:k∈ns.take i
    ·rw [if_pos z,if_pos (decide_eq_true z)]
    ·rw [if_neg z,if_neg (by simpa using z)]
   rw [e1,e2]
   exact hS3
  ·exact h h' tk hS' fun b o nb hb e=>kp b o nb hb ((sb.2 b nb).trans (k2 b o hb e))
set_option maxHeartbeats 3200000 in
theorem sF {l:Addr} {its:Array Value} {ns:List Int} {Q:Value->Shared->Prop} (hh:A.handled=none) (hl:s.heap.IsList l its) (hi:IntsAre its.toList ns) (hlen:ns.length+1 < scanBound)
  (h:∀ (h':Heap) (tk:Nat),h'.SetOf (intKind prog w) s.heap.objs.size (fun k=>decide (k∈ns)) (kA ns)->(∀ b o,b < s.heap.objs.size->s.heap.get? b=some o->h'.get? b=some o)->Q (.ref s.heap.objs.size) { s with heap:=h',toks:=tk }) :
  wpAny (model prog w) A (call (.type "set") [.ref l]) Q E s:=by
 obtain ⟨c,tl,hmro⟩:=PySem.F.called_set.mro
 have hmade:=PySem.F.called_set.made
 have hsub:=PySem.F.called_set.sub
 refine wpAny_call (codeAny_of_tree ?_)
 show wpAny _ _ (callAny (.type "set") _) _ _ _
 refine wpAny_pure ⟨Code.quiet_builtin _ (by decide +kernel),codeAny_builtin PySem.F.entry_type_call ?_⟩
 rw [Around.under_plain (weight_type_call_type "set" [.ref l] []) rfl]
 have h1:=PySem.F.called_set.notType
 have h2:=PySem.F.called_set.canCreate
 have hct:=PySem.F.typeCall_set_1 (.ref l)
 repeat (any_goals (first | assumption | wp_step))
 refine codeAny_mono (pT (.ref l) (E:=E) (Q₁:=fun obj s₁=>obj=.ref s.heap.objs.size/\s₁={ s with heap:=s.heap.push { cls:=.type "set",dict:=none,data:=.set #[] 0 (.fresh 0 0 (Led w)) } }) ⟨rfl,rfl⟩) fun r s₁ hr=>?_
 cases r with
 | error e=>exact hr
 | ok fl =>
  cases fl with
  | ret obj =>
   obtain ⟨rfl,rfl⟩:=hr
   generalize hled:Led w=led at h ⊢
   have hS:(s.heap.push { cls:=.type "set",dict:=none,data:=.set #[] 0 (.fresh 0 0 led) }).get? s.heap.objs.size=some { cls:=.type "set",dict:=none,data:=.set #[] 0 (.fresh 0 0 led) }:=Qi _ rfl
   have hT:Shared.TypeIs { s with heap:=s.heap.push { cls:=.type "set",dict:=none,data:=.set #[] 0 (.fresh 0 0 led) } } (.ref s.heap.objs.size) "set" := ⟨_,hS,rfl⟩
   have hli:=PySem.F.called_set.init.lookup
   have hbi:=PySem.F.called_set.init.bind (.ref s.heap.objs.size)
   repeat (any_goals (first | assumption | wp_step))
   refine codeAny_mono (codeAny_call_builtin (R:=wants (fun r s₂=>r=.none/\∃ h' tk,s₂={ s with heap:=h',toks:=tk }/\h'.SetOf (intKind prog w) s.heap.objs.size (fun k=>decide (k∈ns)) (kA ns) /\
     (∀ b o,b < s.heap.objs.size->s.heap.get? b=some o->h'.get? b=some o)) E) PySem.F.called_set.init.plain PySem.F.entry_set_init (check_set_init_1 hT ?_)) fun r₂ s₂ hr₂=>?_
   ·obtain ⟨ol,hol,hcl,nl,hdl⟩:=hl
    obtain ⟨ocls,odict,odata,oslots⟩:=ol
    simp only at hcl hdl
    subst hcl; subst hdl
    have hol':(s.heap.push { cls:=.type "set",dict:=none,data:=.set #[] 0 (.fresh 0 0 led) }).get? l=some { cls:=.type "list",dict:=odict,data:=.seq its nl,slots:=oslots }:=Qa _ hol
    have hsls:=PySem.F.sub_list_set
    have hslf:=PySem.F.sub_list_frozenset
    have hne:(Value.type "list" == Value.type "dict")=false:=by decide
    have hl1:(s.heap.push { cls:=.type "set",dict:=none,data:=.set #[] 0 (.fresh 0 0 led) }).IsList l its:=⟨_,hol',rfl,nl,rfl⟩
    unfold Builtin.«set.__init__» noKeywords Builtin.Frozenset.updateFrom
    generalize hPI:pyIter=PI
    wp_walk
    subst hPI
    refine wpAny_pyIter_list hl1 ?_
    refine wpAny_bind (wpAny_runValue ?_)
    have hlS:l < s.heap.objs.size:=Ql hol
    have hh3:A.in1.in1.in1.handled=none:=by simp [hh]
    generalize hH1:s.heap.push { cls:=.type "set",dict:=none,data:=.set #[] 0 (.fresh 0 0 led) }=H1 at *
    have szH1:H1.objs.size=s.heap.objs.size+1:=by rw [<- hH1,Jg]
    have hneI:l≠H1.objs.size:=by rw [szH1]; exact Je (Jy hlS)
    have W:=Walks.list (prog:=prog) (w:=w) hh3 H1.objs.size l hneI its
    have hsz:its.size=ns.length:=by rw [<- hi.length,Array.length_toList]
    rw [hsz] at W
    generalize hS0:s.heap.objs.size=S at *
    have SI:S≠H1.objs.size:=by omega
    have lS:l≠S:=Je hlS
    refine aB4 W (fun i v hv=>?_) (fun c hc=>?_) (by simpa using SI) hlen ns.length 0 _ (by omega) ⟨⟨_,Qi _ rfl,rfl,rfl⟩,hl1.push _⟩ ?_ fun h6 tk6 x6 k6=>?_
    ·have hv':its[i]?=some v:=hv
     have hil:i < its.toList.length:=by
      rw [Array.length_toList]
      exact (Array.getElem?_eq_some_iff.mp hv').1
     have e1:its.toList[i]?=some v:=by rw [Array.getElem?_toList]; exact hv'
     obtain ⟨k,t,e2,e3⟩:=IntsAre.at hi i v e1
     exact ⟨k,t,e3,e2⟩
    ·rcases Qm.mp hc with z | z
     ·rw [z]; exact Ne.symm SI
     ·have z':c=l:=by simpa using z
      rw [z']; exact lS
    ·refine ⟨_,#[],0,_,Qa _ hS,⟨rfl,rfl,rfl⟩,rfl,fun e he=>by simp at he,fun k=>by simp,by decide,by rfl,rfl⟩
    ·show wpAny _ _ _ _ _ _
     refine wpAny_pure ?_
     show wpAny _ _ (ret Value.none) _ _ _
     refine wpAny_pure ⟨rfl,h6,tk6,rfl,x6,fun c o hc e=>?_⟩
     have c1:c≠S:=Je hc
     have c2:c∉[H1.objs.size]:=by
      intro z
      have z':c=H1.objs.size:=by simpa using z
      omega
     exact k6 c o c1 c2 (Qa _ (hH1 ▸ Qa _ e))
   ·cases r₂ with
    | error e=>exact hr₂
    | ok fl₂ =>
     cases fl₂ with
     | ret r =>
      obtain ⟨rfl,h',tk,rfl,hS',hk'⟩:=hr₂
      repeat (any_goals (first | assumption | wp_step))
      exact h _ _ hS' hk'
     | _=>exact hr₂.elim
  | _=>exact hr.elim
end
theorem tE:∀ {vs:List Value} {ns:List Int},bG (ns.map V.int) vs->IntsAre vs ns
 | [],[],_=>.nil
 | v::vs,n::ns,h=>by
  cases h with
  | cons r t =>
   obtain ⟨k,rfl⟩:=r
   exact .cons n k (tE t)
 | [],n::ns,h=>by cases h
 | v::vs,[],h=>by cases h
section
variable {X:Cx}
theorem aA6 {K:PySem.W.Frag} (hK:X.K=K) (hc:X.calm=true):eI X (.type "set") (fun xs H Q=>∃ (l:Addr) (ns:List Int),xs = [.ref l]/\SqL K H l (ns.map V.int)/\ns.length<=40/\∀ p,H p=none->Q (.ref p) (upd H p (.set (fun k=>decide (k∈ns)) (kA ns)))):=by
 subst hK
 intro pins s σ H xs us Q I r h
 obtain ⟨l,ns,rfl,hL,hn,q⟩:=h
 obtain ⟨u,rfl,rx⟩:=gB r
 cases rx
 obtain ⟨its,rv,pl,hz⟩:=I.list hL
 refine sF (I.ok.hd hc) pl.isList (tE rv) (Zs (Yx hn) (by decide)) fun h' tk x kp=>?_
 have kp':∀ b o,s.heap.get? b=some o->h'.get? b=some o:=fun b o e=>kp b o (Ql e) e
 have hf:=I.hok.fresh (Qh s.heap.objs.size)
 exact ⟨.ref s.heap.objs.size,_,I.laid (t':=tk) kp' (Qh _) (show bW X.prog X.w _ _ _ (.set _ _) from x),rfl,q _ hf⟩
theorem sG:eI X (.builtin "len") (fun xs H Q=>∃ p S n,xs = [.ref p]/\H p=some (.set S n)/\Q (.int (n:Nat)) H):=by
 intro pins s σ H xs us Q I r h
 obtain ⟨p,S,n,rfl,hp,q⟩:=h
 obtain ⟨u,rfl,rx⟩:=gB r
 cases rx
 obtain ⟨o,es,ep,t,ho,hex,hd,_,_,hb,hf,hn⟩:=I.hok p _ hp
 subst hn
 have hb':es.size < 2^20:=Nat.lt_trans hb (by decide)
 have:(2:Int)^63=9223372036854775808:=by decide
 have:(2:Nat)^20=1048576:=by decide
 exact PySem.call_len_set ho hex hd hf (by omega) ⟨.int es.size,H,I.tok _,⟨_,rfl⟩,q⟩
end
section
variable {prog:Program} {w:World} {A:Around} {E:Value->Shared->Prop} {s:Shared} {e it l:Addr} {n:Nat} {P:Nat->Value->Prop} {st:Nat->Heap->Prop}
theorem aB5 {i:Nat} {old:Value} {Q:Value->Shared->Prop} (S:Sub prog w it l n P st) (hei:e≠it) (hel:l≠e) (he:IsEnum s.heap e it i old) (h1:st i s.heap) (hi:i < n)
  (hQ:∀ h' x tk,P i x->IsEnumOut h' e it ((i:Int)+1) x s.heap.objs.size->st (i+1) h'->h'.get? s.heap.objs.size=some { cls:=.type "tuple",data:=.seq #[.int i tk,x] } ->
   (∀ c o,c≠e->c≠it->s.heap.get? c=some o->h'.get? c=some o)->Q (.ref s.heap.objs.size) { s with heap:=h',toks:=s.toks+1 }) :
  wpAny (model prog w) A (Builtin.«enumerate.__next__» ⟨[.ref e],[]⟩) (fun fin s'=>∃ v,fin=.done (.ret v)/\Q v s') E s:=by
 refine wpAny_bind (m:=field (.ref e) 2) (wpAny_field he rfl (x:=.ref it) rfl ?_)
 refine wpAny_bind (m:=Builtin.SmallTypes.nextOf (.ref it)) (S.item _ i _ _ _ hi h1 fun x g1 px t1 b1=>?_)
 have e1:IsEnum g1 e it i old:=b1.extBut _ _ hei he
 refine wpAny_bind (m:=field (.ref e) 3) (wpAny_field e1 rfl (x:=rawInt i) rfl ?_)
 refine wpAny_bind (m:=field (.ref e) 4) (wpAny_field e1 rfl (x:=.none) rfl ?_)
 refine wpAny_bind (m:=mkInt i) (wpAny_mkInt ?_)
 refine wpAny_bind (m:=setField (.ref e) 3 (rawInt ((i:Int)+1))) (wpAny_setField_rec e1 (by simp) fun g2 e2 b2=>?_)
 have e2':IsEnum g2 e it ((i:Int)+1) old:=e2
 refine wpAny_bind (m:=setField (.ref e) 4 .none) (wpAny_setField_rec e2' (by simp) fun g3 e3 b3=>?_)
 have e3':IsEnum g3 e it ((i:Int)+1) old:=e3
 refine wpAny_bind (m:=newTuple [.int i s.toks,x]) (wpAny_newTuple ?_)
 have sz:g3.objs.size=s.heap.objs.size:=by rw [b3.1,b2.1,b1.1]
 have e4:IsEnum (g3.push { cls:=.type "tuple",data:=.seq #[.int i s.toks,x] }) e it ((i:Int)+1) old:=Qa _ e3'
 have T4:(g3.push { cls:=.type "tuple",data:=.seq #[.int i s.toks,x] }).get? s.heap.objs.size=some { cls:=.type "tuple",data:=.seq #[.int i s.toks,x] }:=by rw [<- sz]; exact Qi _ rfl
 have kp4:∀ c o,c≠e->c≠it->s.heap.get? c=some o->(g3.push { cls:=.type "tuple",data:=.seq #[.int i s.toks,x] }).get? c=some o:=fun c o c1 c2 q =>
  Qa _ (b3.extBut _ _ c1 (b2.extBut _ _ c1 (b1.extBut _ _ c2 q)))
 have t4:st (i+1) (g3.push { cls:=.type "tuple",data:=.seq #[.int i s.toks,x] }):=S.keep _ _ _ t1 fun c hc o q=>by
  have c1:c≠e:=by rcases hc with r | r <;> rw [r]; exact Ne.symm hei; exact hel
  exact Qa _ (b3.extBut _ _ c1 (b2.extBut _ _ c1 q))
 have elt:s.heap.objs.size≠e:=Xj (Ql he)
 rw [sz]
 generalize g3.push { cls:=.type "tuple",data:=.seq #[.int i s.toks,x] }=g4 at e4 T4 kp4 t4 ⊢
 refine wpAny_bind (m:=Builtin.SmallTypes.ownedTupleIsFree (.ref e)) ?_
 unfold Builtin.SmallTypes.ownedTupleIsFree
 refine wpAny_bind (wpAny_field e4 rfl (x:=.none) rfl (wpAny_pure ?_))
 simp only [if_true]
 refine wpAny_bind (wpAny_rule ?_)
 refine wpAny_bind (wpAny_field e4 rfl (x:=old) rfl ?_)
 refine wpAny_bind (wpAny_setField_rec e4 (by simp) fun g5 e5 b5=>?_)
 have e5':IsEnum g5 e it ((i:Int)+1) x:=e5
 refine wpAny_bind (m:=Builtin.SmallTypes.ownedTupleHandOut (.ref e) (.ref s.heap.objs.size)) ?_
 unfold Builtin.SmallTypes.ownedTupleHandOut
 refine wpAny_bind (wpAny_setField_rec e5' (by simp) fun g6 e6 b6=>?_)
 have e6':IsEnumOut g6 e it ((i:Int)+1) x s.heap.objs.size:=e6
 refine wpAny_setField_rec e6' (by simp) fun g7 e7 b7=>?_
 have e7':IsEnumOut g7 e it ((i:Int)+1) x s.heap.objs.size:=e7
 have up:∀ c o,c≠e->g4.get? c=some o->g7.get? c=some o:=fun c o c1 q=>b7.extBut _ _ c1 (b6.extBut _ _ c1 (b5.extBut _ _ c1 q))
 refine wpAny_bind (wpAny_letGo (wpAny_pure ⟨_,rfl,hQ g7 x s.toks px e7' ?_ (up _ _ elt T4) fun c o c1 c2 q=>up c o c1 (kp4 c o c1 c2 q)⟩))
 exact S.keep _ _ _ t4 fun c hc o q=>up c o (by rcases hc with r | r <;> rw [r]; exact Ne.symm hei; exact hel) q
theorem aDq {old:Value} {Q:Fin->Shared->Prop} (hh:A.handled=none) (S:Sub prog w it l n P st) (he:IsEnum s.heap e it n old) (h1:st n s.heap)
  (hE:∀ h' x,Heap.ExtBut it s.heap h'->(∃ o,h'.get? x=some o/\o.cls=.type "StopIteration")->E (.ref x) { s with heap:=h' }) :
  wpAny (model prog w) A (Builtin.«enumerate.__next__» ⟨[.ref e],[]⟩) Q E s:=by
 refine wpAny_bind (m:=field (.ref e) 2) (wpAny_field he rfl (x:=.ref it) rfl ?_)
 exact wpAny_bind (m:=Builtin.SmallTypes.nextOf (.ref it)) (S.done _ _ _ _ hh h1 hE)
end
def Ite (K:PySem.W.Frag) (k:Sk) (a:Addr):It :=
 ⟨fun i H => ∃ xs x, SqK k K H a xs /\ xs[i]? = some x,
  fun i H v H'=>∃ p,H p=none/\v=.ref p/\∀ xs,SqK k K H a xs->∃ x,xs[i]?=some x/\H'=upd H p (.tup [.int (i:Nat),x]),
  fun i H=>∃ xs,SqK k K H a xs/\xs.length=i⟩
theorem aA7 {P:Program} {w:World} {K:PySem.W.Frag} {es:List Expr} {x1} {pos:Pos} (k:Sk) (a e it:Addr) (hei:e≠it) :
  Turn P w K (.Tuple es x1 pos) (Ite K k a) [e,it] e (fun i h=>(∃ old,IsEnum h e it i old)/\ItK k h it a i) where
 mem:=by simp
 obj:=fun i h st c hc=>by
  obtain ⟨⟨old,he⟩,h1⟩:=st
  simp only [Qm,Qo,or_false] at hc
  rcases hc with rfl | rfl
  ·exact ⟨_,he,fun v q=>by cases q⟩
  ·exact h1.obj
 keep:=fun i h h' st kp=>by
  obtain ⟨⟨old,he⟩,h1⟩:=st
  exact ⟨⟨old,kp e (by simp) _ he⟩,h1.at fun o q=>kp it (by simp) o q⟩
 item:=by
  intro X hP hw hK hc i pins s σ H E I hf st hg
  subst hP hw hK
  obtain ⟨⟨old,he⟩,h1⟩:=st
  obtain ⟨xs,x,ha,hx⟩:=hg
  obtain ⟨its,rv,pa⟩:=I.seqK ha
  obtain ⟨u,hu,ru⟩:=rv.get hx
  have na:∀ c∈[e,it],a≠c:=fun c hc'=>I.seq_ne ha (hf c hc')
  have hT:s.TypeIs (.ref e) "enumerate" := ⟨_,he,rfl⟩
  have hi1:i < its.toArray.size:=by rw [Qj]; exact (Qd.mp hu).1
  unfold pyNext
  refine wpAny_bind (wpAny_attempt (wpAny_callSpecial?_slot (name:=Str.ofString "__next__") hT PySem.F.slot_enumerate_next (wpAny_call_entry PySem.F.slot_enumerate_next hT PySem.F.entry_enumerate_next
   (aB5 (mJ k X.prog X.w it a its.toArray (na it (by simp))) hei (na e (by simp)) he ⟨h1,pa⟩ hi1 fun h' u' tk pu he' s1 hT' kp=>wpAny_pure ?_) (PySem.F.args_enumerate_next_1 _))))
  have eu:u'=u:=by
   have q:its[i]?=some u':=by simpa using pu
   rw [hu] at q
   exact (Option.some.inj q).symm
  subst eu
  refine ⟨_,rfl,wpAny_letOwnedTupleGo_enum he' fun h2 he2 sb2=>?_⟩
  have Te:s.heap.objs.size≠e:=Xj (Ql he)
  have hT2:h2.get? s.heap.objs.size=some { cls:=.type "tuple",data:=.seq #[.int i tk,u'] }:=sb2.extBut _ _ Te hT'
  have hf0:=I.hok.fresh (Qh s.heap.objs.size)
  have fz:=I.fpOk (Qh s.heap.objs.size) hf0
  have I2:Inv X pins σ H { s with heap:=h2,toks:=s.toks+1 }:=by
   refine I.turnedL (t':=s.toks+1) [e,it] (fun c o hc' q=>?_) hf
   simp only [Qm,Qo,or_false,not_or] at hc'
   exact sb2.extBut _ _ hc'.1 (kp c o hc'.1 hc'.2 q)
  have I3:Inv X pins σ (upd H s.heap.objs.size (.tup [.int (i:Nat),x])) { s with heap:=h2,toks:=s.toks+1 }:=by
   refine I2.trackO (show bW X.prog X.w _ _ _ (.tup [.int (i:Nat),x]) from ⟨by show 2<=sizeLine; rw [sizeLine_eq]; decide,[.int i tk,u'],0,.cons ⟨tk,rfl⟩ (.cons ru .nil),hT2⟩) hf0 fz.2.1 I.sz fz.2.2.2.2.1 fz.2.2.2.2.2
  refine ⟨.ref s.heap.objs.size,_,I3,rfl,⟨s.heap.objs.size,hf0,rfl,fun xs' ha'=>?_⟩,⟨⟨_,by simpa using he2⟩,s1.1.at fun o q=>sb2.extBut _ _ (Ne.symm hei) q⟩,fun c hc'=>?_⟩
  ·rw [I.seqK_inj ha' ha]
   exact ⟨x,hx,rfl⟩
  ·have cl:c≠s.heap.objs.size:=by
    obtain ⟨o,q⟩:∃ o,s.heap.get? c=some o:=by
     simp only [Qm,Qo,or_false] at hc'
     rcases hc' with rfl | rfl
     ·exact ⟨_,he⟩
     ·obtain ⟨o,q,_⟩:=h1.obj; exact ⟨o,q⟩
    exact Je (Ql q)
   rw [aI cl]
   exact (hf c hc').1
 done:=by
  intro X hP hw hK hc i pins s σ H E I hf st hg
  subst hP hw hK
  obtain ⟨⟨old,he⟩,h1⟩:=st
  obtain ⟨xs,ha,hlen⟩:=hg
  obtain ⟨its,rv,pa⟩:=I.seqK ha
  have la:=rv.length
  have na:∀ c∈[e,it],a≠c:=fun c hc'=>I.seq_ne ha (hf c hc')
  have hT:s.TypeIs (.ref e) "enumerate" := ⟨_,he,rfl⟩
  have ei:i=its.toArray.size:=by rw [Qj]; omega
  subst ei
  unfold pyNext
  refine wpAny_bind (wpAny_attempt (wpAny_callSpecial?_slot (name:=Str.ofString "__next__") hT PySem.F.slot_enumerate_next (wpAny_call_entry PySem.F.slot_enumerate_next hT PySem.F.entry_enumerate_next
   (aDq (I.ok.hd hc) (mJ k X.prog X.w it a its.toArray (na it (by simp))) he ⟨h1,pa⟩ fun h' x kp hx=>?_) (PySem.F.args_enumerate_next_1 _))))
  obtain ⟨oe,hoe,hce⟩:=hx
  refine wpAny_bind (wpAny_isInstance (T := "StopIteration") (b:=true) ⟨oe,hoe,hce⟩ isSubtype_stop (wpAny_pure ⟨rfl,?_⟩))
  refine I.turnedL (t':=s.toks) [e,it] (fun c o hc' q=>?_) hf
  simp only [Qm,Qo,or_false,not_or] at hc'
  exact kp c o hc'.2 q
 self:=fun _ _ _ _ _ st h=>by
  obtain ⟨⟨old,he⟩,_⟩:=st
  exact wpAny_pyIter_enum he h
theorem aA8 (k:Sk) (a:Addr) (xs:Array Value) :
  Meets (Builtin.«enumerate.__new__» ⟨[.type "enumerate",.ref a],[]⟩) (fun _ R s=>AtK k s.heap a xs /\
   R (.ok (.ret (.ref (s.heap.push (itK k a)).objs.size))) { s with heap:=(s.heap.push (itK k a)).push { cls:=.type "enumerate",data:=.fields #[.none,.bool false,.ref s.heap.objs.size,rawInt 0,.none,.none] } }) :=
 .of_wp fun prog w A R s h=>by
  obtain ⟨hp,g,d,tk,os⟩:=s
  obtain ⟨hl,h⟩:=h
  have hsub:=sub_enumerate
  have hA:AtK k (Shared.heap ⟨hp,g,d,tk,os⟩) a xs:=hl
  obtain ⟨o,ho,hc⟩:∃ o,hp.get? a=some o/\(o.cls=.type "list" ∨ o.cls=.type "tuple"):=by
   cases k
   ·obtain ⟨o,e,c,_⟩:=hl; exact ⟨o,e,.inl c⟩
   ·obtain ⟨o,e,c,_⟩:=hl; exact ⟨o,e,.inr c⟩
  have hoL:(Shared.heap ⟨hp,g,d,tk,os⟩).get? a=some o:=ho
  wp_walk using AutoSeq1.wpAny_loadPart' hoL
  refine wpAny_stack_any fun st=>wpAny_pure ?_
  split
  ·rename_i c _ _ _ _ _
   cases (c==Value.type "enumerate")
   ·wp_walk using AutoSeq1.wpAny_loadPart' hoL,oK hA
    exact ⟨_,rfl,h⟩
   ·wp_walk using AutoSeq1.wpAny_loadPart' hoL,oK hA
    exact ⟨_,rfl,h⟩
  ·wp_walk using AutoSeq1.wpAny_loadPart' hoL,oK hA
   exact ⟨_,rfl,h⟩
section
variable {X:Cx} {es:List Expr} {x1:Nat} {tpos:Pos}
def aFr (K:PySem.W.Frag) (k:Sk) (ta:TA):TI:=fun σ H R=>ta σ H fun vs H1=>∃ a xs,vs = [.ref a]/\SqK k K H1 a xs/\R (Ite K k a) H1
theorem aDr (k:Sk) {a:Expr} {ta:TA} {p pos:Pos} (hg:Gl X "enumerate") (hm:X.mg "enumerate" = none) (ha:PA X [a] ta) (hs:starEach [a] X.env = [(false,eval a X.env)]:=by rfl) :
  PI X (.Tuple es x1 tpos) (.Call (.Name "enumerate" p) [a] [] pos) (aFr X.K k ta):=by
 intro pins s σ H R I h
 refine Call_ (hJ (u:=.type "enumerate") I hg hm (by decide +kernel) (PyProof.Rows.callWith_type1 (thn (ha pos pins s σ H _ I h) fun us s1 hx9=>?_) hs rfl))
 obtain ⟨vs,H1,I1,r1,q1⟩:=hx9
 obtain ⟨l,xs,rfl,hA,q⟩:=q1
 obtain ⟨u1,rfl,r1'⟩:=gB r1
 cases r1'
 obtain ⟨its,rv,pa⟩:=I1.seqK hA
 refine callType_new PySem.F.called_enumerate (by decide) (PySem.F.typeCall_enumerate_1 _) (PySem.F.newCall_enumerate_1 _) (fun obj=>PySem.F.args_object_init_2 obj _) PySem.F.entry_enumerate_new (aA8 k l its.toArray) ⟨pa,?_⟩
 have n1:(s1.heap.push (itK k l)).objs.size=s1.heap.objs.size+1:=Jg ..
 have g2:IsEnum ((s1.heap.push (itK k l)).push { cls:=.type "enumerate",data:=.fields #[.none,.bool false,.ref s1.heap.objs.size,rawInt 0,.none,.none] }) (s1.heap.push (itK k l)).objs.size s1.heap.objs.size 0 .none:=Qi _ rfl
 have g1:ItK k ((s1.heap.push (itK k l)).push { cls:=.type "enumerate",data:=.fields #[.none,.bool false,.ref s1.heap.objs.size,rawInt 0,.none,.none] }) s1.heap.objs.size l 0:=(ItK.new k s1.heap l).at fun o e=>Qa _ e
 have kp:∀ c o,s1.heap.get? c=some o->((s1.heap.push (itK k l)).push { cls:=.type "enumerate",data:=.fields #[.none,.bool false,.ref s1.heap.objs.size,rawInt 0,.none,.none] }).get? c=some o:=fun c o e=>Qa _ (Qa _ e)
 generalize (s1.heap.push (itK k l)).push { cls:=.type "enumerate",data:=.fields #[.none,.bool false,.ref s1.heap.objs.size,rawInt 0,.none,.none] }=h2 at g1 g2 kp ⊢
 refine ⟨⟨_,g2,rfl⟩,wpAny_pyIter_enum g2 ?_⟩
 rw [n1] at *
 have I2:Inv X pins σ H1 { s1 with heap:=h2 }:=I1.kept (t':=s1.toks) kp
 refine ⟨s1.heap.objs.size+1,[s1.heap.objs.size+1,s1.heap.objs.size],_,_,H1,rfl,I2,aA7 k l (s1.heap.objs.size+1) s1.heap.objs.size (Nat.succ_ne_self _),⟨⟨_,g2⟩,g1⟩,fun c hc=>?_,q⟩
 have hc':s1.heap.objs.size<=c:=by
  simp only [Qm,Qo,or_false] at hc
  rcases hc with r | r
  ·rw [r]; exact Jx _ _
  ·rw [r]; exact Qh _
 exact I1.fpOk hc' (I1.hok.fresh hc')
end
theorem aB6 {K:PySem.W.Frag} {k:Sk} {a:Addr} {xs:List V} {g:TG} {tb:TS} {D:Ends} {σ:St} {H:Hp} (Pv:Nat->St->Hp->Prop) (h0:Pv 0 σ H) (hl:∀ i σ H,i<=xs.length->Pv i σ H->SqK k K H a xs)
  (hs:∀ i x p σ H,xs[i]?=some x->Pv i σ H->H p=none->g (.ref p) σ (upd H p (.tup [.int (i:Nat),x])) fun σ2 H2=>tb { D with nx:=Pv (i+1),ct:=Pv (i+1),bk:=D.nx } σ2 H2) (hd:∀ σ H,Pv xs.length σ H->D.nx σ H) :
  ∃ W:Nat->Nat->St->Hp->Prop,(∃ m,W 0 m σ H)/\∀ i m σ H,W i m σ H ->
   ((Ite K k a).stop i H/\D.nx σ H)∨((Ite K k a).go i H/\∃ N:St->Hp->Prop,(∀ σ' H',N σ' H'->∃ m',m' < m/\W (i+1) m' σ' H')/\∀ x H',(Ite K k a).yld i H x H'->g x σ H' fun σ2 H2=>tb { D with nx:=N,ct:=N,bk:=D.nx } σ2 H2):=by
 refine ⟨fun i m σ H=>m=xs.length - i/\i<=xs.length/\Pv i σ H,⟨xs.length,by simp,Jo _,h0⟩,?_⟩
 rintro i m σ H ⟨rfl,hi,p⟩
 have q:=hl i σ H hi p
 by_cases hlt:i < xs.length
 ·refine .inr ⟨⟨xs,xs[i],q,Qc hlt⟩,Pv (i+1),fun σ' H' p'=>⟨xs.length - (i+1),by omega,rfl,hlt,p'⟩,fun x H' y=>?_⟩
  obtain ⟨p1,hp1,rfl,y⟩:=y
  obtain ⟨v,hv,rfl⟩:=y xs q
  exact hs i v p1 σ H hv p hp1
 ·have e:i=xs.length:=by omega
  subst e
  exact .inl ⟨⟨xs,q,rfl⟩,hd σ H p⟩
theorem yL {n:Nat} (h:n<=1000):n<=sizeLine:=by rw [sizeLine_eq]; omega
section
variable {own:Nat} {fr:List Nat} {g:TG} {te:TE} {σ:St} {H:Hp} {Qf:Hp->List V->Prop} {K:PySem.W.Frag}
theorem aDs {vs:List V} {i:Nat} {v:V} (h:vs[i]?=some v):vs.take (i+1)=vs.take i++[v]:=by rw [Jh,h]; rfl
theorem mO {J:It} {n:Nat} {vs:List V} (SH:St->Prop) (hn:n<=1000) (hl:vs.length=n) (hσ:SH (blk own fr σ)) (hstop:∀ H',aE H H'->J.stop n H') (hgo:∀ i H',i < n->aE H H'->J.go i H')
  (hs:∀ i v x σ H1 H2,i < n->vs[i]?=some v->SH σ->aE H H1->J.yld i H1 x H2->∀ Q:V->St->Hp->Prop,(∀ σ2 H4,SH σ2->aE H1 H4->Q v σ2 H4)->g x σ H2 fun σ2 H3=>te σ2 H3 fun y H4=>Q y σ2 H4)
  (hd:∀ H',aE H H'->Qf H' vs) :
  ∃ W:Nat->Nat->List V->St->Hp->Prop,(∃ m,W 0 m [] (blk own fr σ) H)/\∀ i m ys σ' H,W i m ys σ' H ->
   (J.stop i H/\Qf H ys) ∨
   (J.go i H/\∃ N:List V->St->Hp->Prop,(∀ ys' σ2 H2,N ys' σ2 H2->∃ m',m' < m/\W (i+1) m' ys' σ2 H2) /\
    ∀ x H',J.yld i H x H'->g x σ' H' fun σ2 H2=>uG σ2 H2 fun b H3=>if b=true then te σ2 H3 fun y H4=>ys.length < sizeLine/\N (ys++[y]) σ2 H4 else N ys σ2 H3):=by
 refine kY n (yL hn) SH (fun i ys H'=>ys=vs.take i/\aE H H') hσ ⟨rfl,aE.refl H⟩ (fun i ys H' p=>by rw [p.1,Ja]; omega) (fun ys H' p=>hstop H' p.2) (fun i ys H' hi p=>hgo i H' hi p.2) ?_ (fun ys H' p=>?_)
 ·rintro i ys σ' x H1 H2 hi sh ⟨rfl,s1⟩ hy hz
  have hv:vs[i]?=some vs[i]:=Qc (by omega)
  have h:=hs i vs[i] x σ' H1 H2 hi hv sh s1 hy (fun y σ2 H4=>(vs.take i).length < sizeLine/\SH σ2/\(vs.take i++[y]=vs.take (i+1)/\aE H H4)) fun σ2 H4 sh2 s4=>⟨hz,sh2,(aDs hv).symm,s1.trans s4⟩
  exact h
 ·obtain ⟨rfl,s1⟩:=p
  rw [Jf (by omega)]
  exact hd H' s1
theorem wC {a:Addr} {xs vs:List V} (SH:St->Prop) (hn:xs.length<=1000) (hl:vs.length=xs.length) (ha:SqL K H a xs) (hσ:SH (blk own fr σ))
  (hs:∀ (i:Nat) x v σ H1,xs[i]?=some x->vs[i]?=some v->SH σ->aE H H1->∀ Q:V->St->Hp->Prop,(∀ σ2 H4,SH σ2->aE H1 H4->Q v σ2 H4)->g x σ H1 fun σ2 H2=>te σ2 H2 fun y H4=>Q y σ2 H4)
  (hd:∀ H',aE H H'->Qf H' vs) :
  ∃ W:Nat->Nat->List V->St->Hp->Prop,(∃ m,W 0 m [] (blk own fr σ) H)/\∀ i m ys σ' H,W i m ys σ' H ->
   ((Itl K a).stop i H/\Qf H ys) ∨
   ((Itl K a).go i H/\∃ N:List V->St->Hp->Prop,(∀ ys' σ2 H2,N ys' σ2 H2->∃ m',m' < m/\W (i+1) m' ys' σ2 H2) /\
    ∀ x H',(Itl K a).yld i H x H'->g x σ' H' fun σ2 H2=>uG σ2 H2 fun b H3=>if b=true then te σ2 H3 fun y H4=>ys.length < sizeLine/\N (ys++[y]) σ2 H4 else N ys σ2 H3):=by
 refine mO SH hn hl hσ (fun H' s=>⟨xs,s.seqL ha,Qh _⟩) (fun i H' hi s=>⟨xs,xs[i],s.seqL ha,Qc hi⟩) (fun i v x σ H1 H2 hi hv sh s y Q k=>?_) hd
 obtain ⟨e,y⟩:=y
 subst e
 exact hs i x v σ _ (y xs (s.seqL ha)) hv sh s Q k
theorem mP {a:Addr} {xs vs:List V} (SH:St->Prop) (hn:xs.length<=1000) (hl:vs.length=xs.length) (ha:SqT K H a xs) (hσ:SH (blk own fr σ))
  (hs:∀ (i:Nat) x v σ H1,xs[i]?=some x->vs[i]?=some v->SH σ->aE H H1->∀ Q:V->St->Hp->Prop,(∀ σ2 H4,SH σ2->aE H1 H4->Q v σ2 H4)->g x σ H1 fun σ2 H2=>te σ2 H2 fun y H4=>Q y σ2 H4)
  (hd:∀ H',aE H H'->Qf H' vs) :
  ∃ W:Nat->Nat->List V->St->Hp->Prop,(∃ m,W 0 m [] (blk own fr σ) H)/\∀ i m ys σ' H,W i m ys σ' H ->
   ((Itt K a).stop i H/\Qf H ys) ∨
   ((Itt K a).go i H/\∃ N:List V->St->Hp->Prop,(∀ ys' σ2 H2,N ys' σ2 H2->∃ m',m' < m/\W (i+1) m' ys' σ2 H2) /\
    ∀ x H',(Itt K a).yld i H x H'->g x σ' H' fun σ2 H2=>uG σ2 H2 fun b H3=>if b=true then te σ2 H3 fun y H4=>ys.length < sizeLine/\N (ys++[y]) σ2 H4 else N ys σ2 H3):=by
 refine mO SH hn hl hσ (fun H' s=>⟨xs,s.seqT ha,Qh _⟩) (fun i H' hi s=>⟨xs,xs[i],s.seqT ha,Qc hi⟩) (fun i v x σ H1 H2 hi hv sh s y Q k=>?_) hd
 obtain ⟨e,y⟩:=y
 subst e
 exact hs i x v σ _ (y xs (s.seqT ha)) hv sh s Q k
theorem aB7 {k1 k2:Sk} {a b:Addr} {xs zs vs:List V} (SH:St->Prop) (hn:xs.length<=1000) (hle:xs.length<=zs.length) (hl:vs.length=xs.length) (ha:∀ H',aE H H'->SqK k1 K H' a xs/\SqK k2 K H' b zs) (hσ:SH (blk own fr σ))
  (hs:∀ (i:Nat) x z v p σ H1,xs[i]?=some x->zs[i]?=some z->vs[i]?=some v->H1 p=none->SH σ->aE H H1->∀ Q:V->St->Hp->Prop,(∀ σ2 H4,SH σ2->aE H1 H4->Q v σ2 H4)->g (.ref p) σ (upd H1 p (.tup [x,z])) fun σ2 H2=>te σ2 H2 fun y H4=>Q y σ2 H4)
  (hd:∀ H',aE H H'->Qf H' vs) :
  ∃ W:Nat->Nat->List V->St->Hp->Prop,(∃ m,W 0 m [] (blk own fr σ) H)/\∀ i m ys σ' H,W i m ys σ' H ->
   ((Itz K k1 k2 a b).stop i H/\Qf H ys) ∨
   ((Itz K k1 k2 a b).go i H/\∃ N:List V->St->Hp->Prop,(∀ ys' σ2 H2,N ys' σ2 H2->∃ m',m' < m/\W (i+1) m' ys' σ2 H2) /\
    ∀ x H',(Itz K k1 k2 a b).yld i H x H'->g x σ' H' fun σ2 H2=>uG σ2 H2 fun b H3=>if b=true then te σ2 H3 fun y H4=>ys.length < sizeLine/\N (ys++[y]) σ2 H4 else N ys σ2 H3):=by
 refine mO SH hn hl hσ (fun H' s=>⟨xs,zs,(ha H' s).1,(ha H' s).2,by omega⟩) (fun i H' hi s=>⟨xs,zs,xs[i],zs[i]'(by omega),(ha H' s).1,(ha H' s).2,Qc hi,Qc (by omega)⟩) (fun i v x σ H1 H2 hi hv sh s y Q k=>?_) hd
 obtain ⟨q,hq,rfl,hy⟩:=y
 obtain ⟨x,z,h1,h2,rfl⟩:=hy xs zs (ha H1 s).1 (ha H1 s).2
 exact hs i x z v q σ H1 h1 h2 hv hq sh s Q k
end
section
variable {X:Cx} {st:Stmt} {lP:List Stmt} {t u:TS} {e:Expr} {te:TE} {tt:TT}
end
section
variable {X:Cx} {K:PySem.W.Frag}
theorem wD (hK:X.K=K):IxR X (aFj K):=by subst hK; exact eA
end
theorem sH (xs:Array Value):slicePick xs none none (some (-1))=xs.toList.reverse.toArray:=by
 unfold slicePick
 have e1:sliceBounds none none (some (-1)) xs.size=((xs.size:Int) - 1,-1,-1):=by simp [sliceBounds]
 rw [e1,<- wA xs]
 congr 1
 show List.filterMap (fun x=>xs[x]?) (sliceRange ((xs.size:Int) - 1) (-1) (-1))=_
 have e2:sliceRange ((xs.size:Int) - 1) (-1) (-1)=(List.range xs.size).map fun (k:Nat)=>((xs.size:Int) - 1+(k:Int)*(-1)).toNat:=by
  unfold sliceRange
  rw [if_neg (by decide)]
  have e3:(if (xs.size:Int) - 1 > -1 then ((xs.size:Int) - 1 - -1 - -1 - 1) / (- -1) else 0).toNat=xs.size:=by
   by_cases h0:xs.size=0
   ·rw [h0]; decide
   ·rw [if_pos (by omega),show (- -1:Int)=1 from rfl,Wt]; omega
  show (List.range (if (xs.size:Int) - 1 > -1 then ((xs.size:Int) - 1 - -1 - -1 - 1) / (- -1) else 0).toNat).map _=_
  rw [e3]
  refine Yi fun k _=>?_
  congr 1
  omega
 rw [e2,Wp]
 rfl
section
variable {X:Cx}
def aFs (K:PySem.W.Frag) (te ts:TE):TE:=fun σ H Q=>te σ H fun x H1=>ts σ H1 fun y H2=>y=.int (-1)/\∃ a xs,x=.ref a/\SqL K H2 a xs/\∀ p,H2 p=none->Q (.ref p) (upd H2 p (.lst xs.reverse))
theorem aDt {e st:Expr} {te ts:TE} {pos p2:Pos} (he:PE X e te) (hst:PE X st ts):PE X (.Subscript e (.Slice none none (some st) p2) pos) (aFs X.K te ts):=by
 intro pins s σ H Q I h
 refine Subscript_ (thn (he pins s σ H _ I h) fun v s1 hx9=>?_)
 obtain ⟨x,H1,I1,r1,q1⟩:=hx9
 refine wpAny_Slice ?_
 rw [evalPart_none]
 refine wpAny_pure ?_
 show wpAny _ _ (evalPart none X.env) _ _ s1
 rw [evalPart_none]
 refine wpAny_pure ?_
 show wpAny _ _ (evalPart (some st) X.env) _ _ s1
 rw [evalPart_some]
 refine thn (hst pins s1 σ H1 _ I1 q1) fun vst s3 hx9=>?_
 obtain ⟨y,H3,I3,r3,q3⟩:=hx9
 obtain ⟨rfl,a,xs,rfl,hx,q⟩:=q3
 obtain ⟨tk,rfl⟩:=r3
 cases r1
 have I4:Inv X pins σ H3 { s3 with heap:=s3.heap.push { cls:=.type "slice",data:=.fields #[.none,.none,.int (-1) tk] } }:=I3.kept (t':=s3.toks) fun b ob q=>Qa _ q
 obtain ⟨its,r,ht,hz⟩:=I4.list hx
 have hlen:=r.length
 have hg:wpAny (model X.prog X.w) X.A (getItem (.ref a) (.ref s3.heap.objs.size)) (EP X pins σ Q) X.xe { s3 with heap:=s3.heap.push { cls:=.type "slice",data:=.fields #[.none,.none,.int (-1) tk] } }:=by
  refine wpAny_getItem_list_slice ht.isList (Heap.IsSliceOf.new ..) .none .none (.int (-1) tk) (by decide) ?_ (by rw [Qj]; omega)
  rw [sH]
  refine ⟨.ref _,_,I4.laid (t':=s3.toks) (o:=.lst xs.reverse) (fun b ob q=>Qa _ q) (Qh _) ?_,rfl,q _ (I4.hok.fresh (Qh _))⟩
  exact ⟨by rw [Jt]; exact hz,its.reverse,0,r.reverse,Qi _ rfl⟩
 show wpAny (model X.prog X.w) X.A (subscriptTail e (.Slice none none (some st) p2) (.ref a) (.ref s3.heap.objs.size)) (EP X pins σ Q) X.xe { s3 with heap:=s3.heap.push { cls:=.type "slice",data:=.fields #[.none,.none,.int (-1) tk] } }
 exact tail_any (ops:=[.ref a,.ref s3.heap.objs.size]) ht.isList.typeIs slot_list_getitem.lookup hg (by with_unfolding_all rfl)
end
section
variable {K:PySem.W.Frag} {S:List Addr} {H H' H0:Hp} {E E':Hp->V->Prop} {σ:St} {te ta tb ts:TE} {t tr:TA} {tl th:TO}
instance {a:Addr} {xs:List V}:Mo (fun H v=>v=.ref a/\SqT K (Vw S H) a xs):=⟨fun e h=>⟨h.1,(Vw.same e).seqT h.2⟩⟩
end
section
variable {prog:Program} {w:World} {A:Around} {R:Result->Shared->Prop} {s:Shared} {elt tg iter tg2 iter2:Expr} {scope:Scope} {pos:Pos} {it acc:Value} {env:Env}
theorem sI:compTurn (.ListComp elt [⟨tg,iter,[],0⟩,⟨tg2,iter2,[],0⟩] scope pos) 0 it acc env=(standAt iter.pos >>= fun _=>pyNext it >>= fun r=>match r with
   | none=>pure (.done .next)
   | some v=>letOwnedTupleGo tg it v >>= fun _=>assign tg env v >>= fun _ =>
    (eval iter2 env >>= fun x=>standAt iter2.pos >>= fun _=>foldedSetIterable iter2 env x >>= fun x=>holding [x] (pyIter x) >>= fun i =>
     runOwn (.compStart (.ListComp elt [⟨tg,iter,[],0⟩,⟨tg2,iter2,[],0⟩] scope pos) 1 i acc env) env >>= fun _ =>
     again (.compLoop (.ListComp elt [⟨tg,iter,[],0⟩,⟨tg2,iter2,[],0⟩] scope pos) 0 it acc env))):=by rfl
theorem sJ:compTurn (.ListComp elt [⟨tg,iter,[],0⟩,⟨tg2,iter2,[],0⟩] scope pos) 1 it acc env=(standAt iter2.pos >>= fun _=>pyNext it >>= fun r=>match r with
   | none=>pure (.done .next)
   | some v=>letOwnedTupleGo tg2 it v >>= fun _=>assign tg2 env v >>= fun _ =>
    (eval elt env >>= fun x=>call (.builtin "list.append") [acc,x] >>= fun _=>pure ()) >>= fun _ =>
     again (.compLoop (.ListComp elt [⟨tg,iter,[],0⟩,⟨tg2,iter2,[],0⟩] scope pos) 1 it acc env)):=by rfl
theorem kB
  (h0:codeAny (model prog w) A (.compLoop (.ListComp elt [⟨tg,iter,[],0⟩,⟨tg2,iter2,[],0⟩] scope pos) 1 it acc env) R s)
  (h:wpAny (model prog w) A (pyIter it) (fun it' s'=>codeAny (model prog w) A (.compLoop (.ListComp elt [⟨tg,iter,[],0⟩,⟨tg2,iter2,[],0⟩] scope pos) 1 it' acc env) R s')
   (notedBy (model prog w) A env fun x s'=>R (.error x) s') s) :
  codeAny (model prog w) A (.compStart (.ListComp elt [⟨tg,iter,[],0⟩,⟨tg2,iter2,[],0⟩] scope pos) 1 it acc env) R s:=by
 refine codeAny_of_tree ?_
 show wpAny _ _ ((compStart (.ListComp elt [⟨tg,iter,[],0⟩,⟨tg2,iter2,[],0⟩] scope pos) 1 it acc env).onRaise (fun x=>do noteFrame x env; standAt theWindowsPlace)) _ _ s
 refine wpAny_notedAt ?_
 unfold compStart
 show wpAny _ _ (ask >>= _) _ _ s
 refine wpAny_bind (wpAny_askSetting (wpAny_ite ?_))
 split
 ·first
   | exact wpAny_bind (wpAny_pure (wpAny_pure (And.intro rfl h0)))
   | exact wpAny_pure (And.intro rfl h0)
 ·first
   | exact wpAny_bind (wpAny_rule (wpAny_bind (wpAny_standAt (wpAny_bind (wpAny_mono h (fun it' s' h'=>wpAny_pure (And.intro rfl h')) fun _ _ x=>x)))))
   | (refine wpAny_bind (wpAny_rule ?_); show wpAny _ _ (standAt iter2.pos >>= _) _ _ s; exact wpAny_bind (wpAny_standAt (wpAny_bind (wpAny_mono h (fun it' s' h'=>wpAny_pure (And.intro rfl h')) fun _ _ x=>x))))
theorem wE (I:Nat->Shared->Prop)
  (turn:∀ n s,I n s->wpAny (model prog w) A (pyNext it) (fun r s₁=>match r with
   | none=>R (.ok .next) s₁
   | some v=>wpAny (model prog w) A (letOwnedTupleGo tg2 it v) (fun _ s₁'=>wpAny (model prog w) A (assign tg2 env v) (fun _ s₂ =>
     wpAny (model prog w) A (eval elt env) (fun x s₄ =>
       wpAny (model prog w) A (call (.builtin "list.append") [acc,x]) (fun _ s₅=>∃ m,m < n/\I m s₅) (fun _ _=>False) s₄) (fun _ _=>False) s₂) (fun _ _=>False) s₁') (fun _ _=>False) s₁) (fun _ _=>False) s)
  (n:Nat) (h:I n s) :
  codeAny (model prog w) A (.compLoop (.ListComp elt [⟨tg,iter,[],0⟩,⟨tg2,iter2,[],0⟩] scope pos) 1 it acc env) R s:=by
 refine codeAny_loop rfl I (fun n s hI=>?_) n h
 show wpAny _ A ((compTurn (.ListComp elt [⟨tg,iter,[],0⟩,⟨tg2,iter2,[],0⟩] scope pos) 1 it acc env).onRaise (fun x=>do noteFrame x env; theTreesLotGoes x)) _ _ s
 refine wpAny_noted ?_
 rw [sJ]
 refine wpAny_bind (wpAny_standAt (wpAny_bind (wpAny_mono (turn n s hI) (fun r s₁ h₁=>?_) fun _ _ h'=>h'.elim)))
 cases r with
 | none=>exact wpAny_pure h₁
 | some v =>
  refine wpAny_bind (wpAny_mono h₁ (fun _ s₁' h₁'=>?_) fun _ _ h'=>h'.elim)
  refine wpAny_bind (wpAny_mono h₁' (fun _ s₂ h₂=>?_) fun _ _ h'=>h'.elim)
  exact wpAny_bind (wpAny_bind (wpAny_mono h₂ (fun x s₄ h₄=>wpAny_bind (wpAny_mono h₄ (fun _ s₅ h₅=>wpAny_pure (wpAny_pure ⟨rfl,h₅⟩)) fun _ _ h'=>h'.elim)) fun _ _ h'=>h'.elim))
theorem uK (hs2:∀ x,foldedSetIterable iter2 env x=pure x) (I:Nat->Shared->Prop)
  (turn:∀ n s,I n s->wpAny (model prog w) A (pyNext it) (fun r s₁=>match r with
   | none=>R (.ok .next) s₁
   | some v=>wpAny (model prog w) A (letOwnedTupleGo tg it v) (fun _ s₁'=>wpAny (model prog w) A (assign tg env v) (fun _ s₂ =>
     wpAny (model prog w) A (eval iter2 env) (fun x s₃=>wpAny (model prog w) A (pyIter x) (fun i s₄ =>
       codeAny (model prog w) A (.compStart (.ListComp elt [⟨tg,iter,[],0⟩,⟨tg2,iter2,[],0⟩] scope pos) 1 i acc env) (fun r s₅=>match r with
        | .ok _=>∃ m,m < n/\I m s₅
        | .error _=>False) s₄) (fun _ _=>False) s₃) (fun _ _=>False) s₂) (fun _ _=>False) s₁') (fun _ _=>False) s₁) (fun _ _=>False) s)
  (n:Nat) (h:I n s) :
  codeAny (model prog w) A (.compLoop (.ListComp elt [⟨tg,iter,[],0⟩,⟨tg2,iter2,[],0⟩] scope pos) 0 it acc env) R s:=by
 refine codeAny_loop rfl I (fun n s hI=>?_) n h
 show wpAny _ A ((compTurn (.ListComp elt [⟨tg,iter,[],0⟩,⟨tg2,iter2,[],0⟩] scope pos) 0 it acc env).onRaise (fun x=>do noteFrame x env; theTreesLotGoes x)) _ _ s
 refine wpAny_noted ?_
 rw [sI]
 refine wpAny_bind (wpAny_standAt (wpAny_bind (wpAny_mono (turn n s hI) (fun r s₁ h₁=>?_) fun _ _ h'=>h'.elim)))
 cases r with
 | none=>exact wpAny_pure h₁
 | some v =>
  refine wpAny_bind (wpAny_mono h₁ (fun _ s₁' h₁'=>?_) fun _ _ h'=>h'.elim)
  refine wpAny_bind (wpAny_mono h₁' (fun _ s₂ h₂=>?_) fun _ _ h'=>h'.elim)
  refine wpAny_bind (wpAny_mono h₂ (fun x s₃ h₃=>?_) fun _ _ h'=>h'.elim)
  refine wpAny_bind (wpAny_standAt (wpAny_bind (wpAny_of_eq (hs2 x) (wpAny_bind (wpAny_holding (wpAny_mono h₃ (fun i s₄ h₄=>?_) fun _ _ h'=>h'.elim))))))
  refine wpAny_bind (wpAny_runOwn (codeAny_mono h₄ fun r s₅ h₅=>?_))
  cases r with
  | ok f=>exact wpAny_pure ⟨rfl,h₅⟩
  | error e=>exact False.elim h₅
end
theorem yM {Y:Cx} {elt tg iter tg2 iter2:Expr} {scope:Scope} {pos:Pos} {it2 D:Addr} {fp2:List Addr} {tn2:Nat->Heap->Prop} {J2:It} {g2:TG} {te:TE} {ps:List (Addr×Obj)} {σ:St} {H:Hp} {s:Shared} {zs:List V} {its:Array Value} {o:Obj} {F:List V->St->Hp->Prop} {R:Result->Shared->Prop}
  (hx:∀ v s',¬ Y.xe v s') (hc:Y.calm=true) (T:Turn Y.prog Y.w Y.K tg2 J2 fp2 it2 tn2) (hg:PG Y tg2 g2) (he:PE Y elt te)
  (hDL:D≠Y.env.locals) (hD1:D∈Y.ex∨Y.s₀.heap.objs.size<=D) (hDc:∀ x c,Y.env.cells.lookup x=some c->c≠D) (hDp:∀ p∈Y.pn,p.1≠D) (hDfs:D∉Y.fs) (hps:∀ p∈ps,p.1≠D)
  (I0:Inv Y ((D,o)::ps) σ H s) (pl0:s.heap.PlainList D its) (v0:bG zs its.toList) (z0:zs.length<=sizeLine) (st0:tn2 0 s.heap) (f0:∀ b∈fp2,kC Y ((D,o)::ps) H b)
  (w:∃ W2:Nat->Nat->List V->St->Hp->Prop,(∃ m2,W2 0 m2 zs σ H)/\∀ j m2 zs σ3 H4,W2 j m2 zs σ3 H4->(J2.stop j H4/\F zs σ3 H4)∨(J2.go j H4/\∃ N2:List V->St->Hp->Prop,(∀ zs' σ4 H5,N2 zs' σ4 H5->∃ m3,m3 < m2/\W2 (j+1) m3 zs' σ4 H5) /\
   ∀ x H',J2.yld j H4 x H'->g2 x σ3 H' fun σ4 H5=>te σ4 H5 fun y H6=>zs.length < sizeLine/\N2 (zs++[y]) σ4 H6))
  (hR:∀ (s':Shared) (σ':St) (H':Hp) (zs':List V) (its':Array Value) (o':Obj),Inv Y ((D,o')::ps) σ' H' s'->s'.heap.PlainList D its'->bG zs' its'.toList->zs'.length<=sizeLine->F zs' σ' H'->R (.ok .next) s') :
  codeAny (model Y.prog Y.w) Y.A (.compStart (.ListComp elt [⟨tg,iter,[],0⟩,⟨tg2,iter2,[],0⟩] scope pos) 1 (.ref it2) (.ref D) Y.env) R s:=by
 obtain ⟨W2,⟨m0,w0⟩,turn⟩:=w
 have stat:∀ {H':Hp} {o':Obj},(∀ b∈fp2,H' b=none)->∀ b∈fp2,kC Y ((D,o')::ps) H' b:=fun {H' o'} hn b hb=>by
  obtain ⟨_,q1,q2,q3,q4,q5⟩:=f0 b hb
  refine ⟨hn b hb,q1,q2,q3,q4,fun p hp=>?_⟩
  rcases Jk.mp hp with h | h
  ·exact q5 p (Jl _ h)
  ·rcases Qm.mp h with h | h
   ·rw [h]; exact q5 (D,o) (Qt _ (Qq ..))
   ·exact q5 p (Qt _ (Qr _ h))
 have loop:codeAny (model Y.prog Y.w) Y.A (.compLoop (.ListComp elt [⟨tg,iter,[],0⟩,⟨tg2,iter2,[],0⟩] scope pos) 1 (.ref it2) (.ref D) Y.env) R s:=by
  refine wE (fun n s'=>∃ j σ' H' ys its o,Inv Y ((D,o)::ps) σ' H' s'/\s'.heap.PlainList D its/\bG ys its.toList/\ys.length<=sizeLine/\tn2 j s'.heap/\(∀ b∈fp2,H' b=none)/\W2 j n ys σ' H') ?_ m0
   ⟨0,σ,H,zs,its,o,I0,pl0,v0,z0,st0,fun b hb=>(f0 b hb).1,w0⟩
  rintro n s5 ⟨i,σ5,H5,ys,its,o,I5,pl5,v5,z5,st5,fr5,w5⟩
  have p5':=I5.pin (D,o) (Qt _ (Qq ..))
  rcases turn i n ys σ5 H5 w5 with ⟨stop,qn⟩ | ⟨go,N,hN,step⟩
  ·refine wpAny_mono (T.done Y rfl rfl rfl hc i _ s5 σ5 H5 (fun _ _=>False) I5 (stat fr5) st5 stop) (fun r s6 hx9=>?_) fun _ _ z=>z
   obtain ⟨hr,I6⟩:=hx9
   subst hr
   have p6:=I6.pin (D,o) (Qt _ (Qq ..))
   have pl6:s6.heap.PlainList D its:=by
    obtain ⟨k,e⟩:=pl5
    have e1:o=_:=Option.some.inj (p5'.1.symm.trans e)
    exact ⟨k,by rw [p6.1]; exact congrArg some e1⟩
   exact hR s6 σ5 H5 ys its o I6 pl6 v5 z5 qn
  ·refine wpAny_mono (T.item Y rfl rfl rfl hc i _ s5 σ5 H5 (fun _ _=>False) I5 (stat fr5) st5 go) (fun r s6 hx9=>?_) fun _ _ z=>z
   obtain ⟨u,hr,h6⟩:=hx9
   subst hr
   refine wpAny_mono h6 (fun _ s7 hx9=>?_) fun _ _ z=>z
   obtain ⟨x,H7,I7,r7,y7,st7,fr7⟩:=hx9
   have I7':=I7.pinned (stat fr7) (T.obj _ _ st7)
   refine wpAny_mono (hg _ s7 σ5 H7 x u _ I7' r7 (step x H7 y7)) (fun _ s8 hx9=>?_) fun v s' z=>hx v s' z
   obtain ⟨σ8,H8,I8,q8⟩:=hx9
   have keepT:∀ {H':Hp} {s':Shared} {σ':St},Inv Y (((D,o)::ps)++kD fp2 s7.heap) σ' H' s'->tn2 (i+1) s'.heap/\(∀ b∈fp2,H' b=none)/\s'.heap.PlainList D its/\H' D=none:=fun {H' s' σ'} I'=>by
    refine ⟨T.keep _ _ _ st7 fun b hb o e=>(I'.pin (b,o) (Qt _ (Qt _ (cX hb e)))).1,fun b hb=>?_,?_,?_⟩
    ·obtain ⟨o,e,d⟩:=T.obj _ _ st7 b hb
     exact (I'.pin (b,o) (Qt _ (Qt _ (cX hb e)))).2.1
    ·have p':=I'.pin (D,o) (Qt _ (Jl _ (Qq ..)))
     obtain ⟨k,e⟩:=pl5
     have e1:o=_:=Option.some.inj (p5'.1.symm.trans e)
     exact ⟨k,by rw [p'.1]; exact congrArg some e1⟩
    ·exact (I'.pin (D,o) (Qt _ (Jl _ (Qq ..)))).2.1
   refine wpAny_mono (he _ s8 σ8 H8 _ I8 q8) (fun y s10 hx9=>?_) fun v s' z=>hx v s' z
   obtain ⟨yv,H10,I10,r10,lt10,q10⟩:=hx9
   obtain ⟨t10,fr10,pl10,hD10⟩:=keepT I10
   have hl:=v5.length
   refine wpAny_list_append_plain pl10 (fun h11 pl11 sb11=>?_) (by rw [<- Array.length_toList,<- hl]; exact Zn lt10)
   obtain ⟨m',hm,w'⟩:=hN _ σ8 H10 q10
   have I10':Inv Y [] σ8 H10 s10:=I10.pins_of fun p hp=>by cases hp
   have I11:Inv Y [] σ8 H10 { s10 with heap:=h11 } :=
    I10'.turned (t':=s10.toks) (it:=D) (fun b o hb e=>(sb11.2 b hb).trans e) hD10 hDL hD1 hDc (fun p hp=>by rw [Zr] at hp; exact hDp p hp)
   obtain ⟨k11,e11⟩:=id pl11
   refine ⟨m',hm,i+1,σ8,H10,ys++[yv],its.push y,{ cls:=.type "list",data:=.seq (its.push y) k11 },I11.pins_of fun p hp=>?_,pl11,?_,by rw [Qk]; show ys.length+1<=_; omega,T.keep _ _ _ t10 fun b hb o e=>(sb11.2 b (fun z=>?_)).trans e,fr10,w'⟩
   ·rcases Qm.mp hp with h | h
    ·subst h
     exact ⟨e11,hD10,hDL,hDfs,fun v z=>by cases z⟩
    ·obtain ⟨a1,a2,a3,a4,a5⟩:=I10.pin p (Qt _ (Jl _ (Qr _ h)))
     exact ⟨(sb11.2 p.1 (hps p h)).trans a1,a2,a3,a4,a5⟩
   ·rw [Array.toList_push]
    exact v5.append (.cons r10 .nil)
   ·exact (f0 b hb).2.2.2.2.2 (D,_) (Qt _ (Qq ..)) z.symm
 exact kB loop (T.self Y.A 0 _ _ _ st0 loop)
def aEC (own:Nat) (fr:List Nat) (wi:TI) (g:TG) (wi2:TI) (g2:TG) (te:TE):TE:=fun σ H Q=>wi σ H fun J H1=>∃ W:Nat->Nat->List V->St->Hp->Prop,(∃ m,W 0 m [] (blk own fr σ) H1)/\∀ i m ys σ' H,W i m ys σ' H ->
   (J.stop i H/\∀ p,H p=none->Q (.ref p) (upd H p (.lst ys))) ∨
   (J.go i H/\∃ N:List V->St->Hp->Prop,(∀ ys' σ2 H2,N ys' σ2 H2->∃ m',m' < m/\W (i+1) m' ys' σ2 H2) /\
    ∀ x H',J.yld i H x H'->g x σ' H' fun σ2 H2=>wi2 σ2 H2 fun J2 H3=>∃ W2:Nat->Nat->List V->St->Hp->Prop,(∃ m2,W2 0 m2 ys σ2 H3)/\∀ j m2 zs σ3 H4,W2 j m2 zs σ3 H4->(J2.stop j H4/\N zs σ3 H4)∨(J2.go j H4/\∃ N2:List V->St->Hp->Prop,(∀ zs' σ4 H5,N2 zs' σ4 H5->∃ m3,m3 < m2/\W2 (j+1) m3 zs' σ4 H5) /\
     ∀ x H',J2.yld j H4 x H'->g2 x σ3 H' fun σ4 H5=>te σ4 H5 fun y H6=>zs.length < sizeLine/\N2 (zs++[y]) σ4 H6))
section
variable {X:Cx} {scope:Scope} {own frn:List Str} {fr:List Nat} {elt tg iter tg2 iter2:Expr} {pos:Pos} {wi wi2:TI} {g g2:TG} {te:TE}
theorem wF {pins:List (Addr×Obj)} {σ:St} {H2:Hp} {s2:Shared} {it:Addr} {fp:List Addr} {tn:Nat->Heap->Prop} {J:It} {RR:Value->Addr->Result->Shared->Prop} {E:Value->Shared->Prop} {Q:Hp->List V->Prop}
  (S:CompOk X scope own fr frn) (hc:X.calm=true) (I2:Inv X pins σ H2 s2) (T:Turn X.prog X.w X.K tg J fp it tn) (st2:tn 0 s2.heap) (f2:∀ b∈fp,kC X pins H2 b)
  (hg:∀ C s0 H0 fp,PG (aR X scope (own++frn) C s0 H0 fp) tg g) (hi2:∀ C s0 H0 fp,PI (aR X scope (own++frn) C s0 H0 fp) tg2 iter2 wi2) (hg2:∀ C s0 H0 fp,PG (aR X scope (own++frn) C s0 H0 fp) tg2 g2) (he:∀ C s0 H0 fp,PE (aR X scope (own++frn) C s0 H0 fp) elt te) (hs2:∀ C x,foldedSetIterable iter2 (compEnvC scope (cY X.env scope.names []) C X.env) x=pure x)
  (w:∃ W:Nat->Nat->List V->St->Hp->Prop,(∃ m,W 0 m [] (blk own.length fr σ) H2)/\∀ i m ys σ' H,W i m ys σ' H ->
   (J.stop i H/\Q H ys) ∨
   (J.go i H/\∃ N:List V->St->Hp->Prop,(∀ ys' σ2 H2,N ys' σ2 H2->∃ m',m' < m/\W (i+1) m' ys' σ2 H2) /\
    ∀ x H',J.yld i H x H'->g x σ' H' fun σ2 H2=>wi2 σ2 H2 fun J2 H3=>∃ W2:Nat->Nat->List V->St->Hp->Prop,(∃ m2,W2 0 m2 ys σ2 H3)/\∀ j m2 zs σ3 H4,W2 j m2 zs σ3 H4->(J2.stop j H4/\N zs σ3 H4)∨(J2.go j H4/\∃ N2:List V->St->Hp->Prop,(∀ zs' σ4 H5,N2 zs' σ4 H5->∃ m3,m3 < m2/\W2 (j+1) m3 zs' σ4 H5) /\
     ∀ x H',J2.yld j H4 x H'->g2 x σ3 H' fun σ4 H5=>te σ4 H5 fun y H6=>zs.length < sizeLine/\N2 (zs++[y]) σ4 H6)))
  (hRR:∀ (C D:Addr) (s':Shared) (H':Hp) (ys:List V) (its:Array Value) (m:Str->Option Value),s2.heap.objs.size<=C->s2.heap.objs.size<=D->D≠C->s'.heap.Ns C m->H' C=none->H' D=none->s'.heap.PlainList D its->bG ys its.toList->ys.length<=sizeLine ->
   Inv X pins σ H' s'->Q H' ys->RR (.ref D) C (.ok .next) s') :
  wpAny (model X.prog X.w) X.A (newList []) (fun acc s₃=>wpAny (model X.prog X.w) X.A (newFunctionEnv scope X.env.globals (cY X.env scope.names []) [] X.env.qual none .none (some X.env)) (fun cenv s₄ =>
   codeAny (model X.prog X.w) X.A (.compStart (.ListComp elt [⟨tg,iter,[],0⟩,⟨tg2,iter2,[],0⟩] scope pos) 0 (.ref it) acc { cenv with scope:=relabel scope X.env }) (RR acc cenv.locals) s₄) E s₃) E s2:=by
 obtain ⟨p1,p2,p3,p4,p5,p6,p7⟩:=S.parts
 obtain ⟨W,⟨m0,w0⟩,turn⟩:=w
 refine wpAny_newObj_type (wpAny_newFunctionEnv p2 (by intro y hy; simp at hy) (fun h₁ hns₁ hsb₁=>?_) p1)
 dsimp only at hns₁ hsb₁ ⊢
 generalize hH2:s2.heap.push { cls:=.type "list",dict:=none,data:=.seq ([]:List Value).toArray }=HD at hns₁ hsb₁ ⊢
 have hCs:HD.objs.size=s2.heap.objs.size+1:=by rw [<- hH2,Jg]
 have hDC:s2.heap.objs.size≠HD.objs.size:=by omega
 have hCle:s2.heap.objs.size<=HD.objs.size:=by omega
 have below:∀ b,b < s2.heap.objs.size->b≠HD.objs.size/\b≠s2.heap.objs.size:=fun b hb=>⟨by omega,by omega⟩
 have old:∀ b o,s2.heap.get? b=some o->h₁.get? b=some o:=fun b o e=>hsb₁.extBut b o (below b (Ql e)).1 (Qa _ (hH2 ▸ Qa _ e))
 have hacc:h₁.get? s2.heap.objs.size=some { cls:=.type "list",data:=.seq ([]:List Value).toArray }:=hsb₁.extBut _ _ hDC (Qa _ (hH2 ▸ Qi _ rfl))
 have flt:∀ b∈fp,b < s2.heap.objs.size:=fun b hb=>by
  obtain ⟨o,e,_⟩:=T.obj _ _ st2 b hb
  exact Ql e
 generalize hDg:s2.heap.objs.size=D at *
 generalize hCg:HD.objs.size=C at *
 have st3:tn 0 h₁:=T.keep _ _ _ st2 fun b _ o e=>old b o e
 -- facts of the block
 have clsub:∀ x c,(cY X.env scope.names []).lookup x=some c->X.env.cells.lookup x=some c:=fun x c e=>by
  rcases iI _ _ _ _ (fP e) with q | q
  ·cases q
  ·exact q
 have cD:∀ x c,(cY X.env scope.names []).lookup x=some c->c≠D:=fun x c e z=>by
  obtain ⟨v,q⟩:=I2.cell x c (clsub x c e)
  exact Jb _ (Qp q.lt (by rw [hDg,z]; exact Qh _))
 have loop:∀ s₃:Shared,s₃={ s2 with heap:=h₁,toks:=s2.toks+([]:List (Str×Value)).length } ->
   codeAny (model X.prog X.w) X.A (.compLoop (.ListComp elt [⟨tg,iter,[],0⟩,⟨tg2,iter2,[],0⟩] scope pos) 0 (.ref it) (.ref D) (compEnvC scope (cY X.env scope.names []) C X.env)) (RR (.ref D) C) s₃:=by
  rintro s₃ rfl
  have I3:Inv (aR X scope (own++frn) C s2 H2 fp) [(D,_)] (blk own.length fr σ) H2 { s2 with heap:=h₁,toks:=s2.toks+([]:List (Str×Value)).length } :=
   pP (m:=fun _=>none) I2 S f2 (by rw [hDg]; exact flt) (by rw [hDg]; exact hCle) (hns₁:h₁.Ns C _) old (by rw [hDg]; exact Qh _) hDC hacc (fun v z=>by cases z)
  have stat:∀ {H':Hp} {pl:List (Addr×Obj)},(∀ p∈pl,p.1=D)->(∀ b∈fp,H' b=none)->∀ b∈fp,kC (aR X scope (own++frn) C s2 H2 fp) pl H' b:=fun {H' pl} hpl hn b hb=>by
   refine ⟨hn b hb,(below b (flt b hb)).1,fun z=>?_,.inl hb,fun x c e=>(f2 b hb).2.2.2.2.1 x c (clsub x c e),fun p hp=>?_⟩
   ·have z':b∈frs X.stack:=z
    rcases Qm.mp (I2.stkSub b z') with e | e
    ·exact (f2 b hb).2.1 e
    ·exact (f2 b hb).2.2.1 e
   ·have hp':p∈pl:=by simpa [aR] using hp
    rw [hpl p hp']
    exact Ne.symm (below b (flt b hb)).2
  refine uK (hs2 C) (env:=compEnvC scope (cY X.env scope.names []) C X.env) (fun n s'=>∃ i σ' H' ys its o,Inv (aR X scope (own++frn) C s2 H2 fp) [(D,o)] σ' H' s'/\s'.heap.PlainList D its/\bG ys its.toList/\ys.length<=sizeLine/\tn i s'.heap/\(∀ b∈fp,H' b=none)/\W i n ys σ' H') ?_ m0
   ⟨0,_,H2,[],#[],_,I3,⟨_,hacc⟩,.nil,Jo _,st3,fun b hb=>(f2 b hb).1,w0⟩
  rintro n s5 ⟨i,σ5,H5,ys,its,o,I5,pl5,v5,z5,st5,fr5,w5⟩
  have one:∀ {o:Obj},∀ p∈[(D,o)],p.1=D:=fun p hp=>by
   have e:=Qu.mp hp
   rw [e]
  rcases turn i n ys σ5 H5 w5 with ⟨stop,qn⟩ | ⟨go,N,hN,step⟩
  ·refine wpAny_mono (T.done (aR X scope (own++frn) C s2 H2 fp) rfl rfl rfl hc i _ s5 σ5 H5 (fun _ _=>False) I5 (stat one fr5) st5 stop) (fun r s6 hx9=>?_) fun _ _ z=>z
   obtain ⟨hr,I6⟩:=hx9
   subst hr
   obtain ⟨m6,hn6,_⟩:=I6.loc
   have p6:=I6.pin (D,o) (by simp [aR])
   have p5':=I5.pin (D,o) (by simp [aR])
   have pl6:s6.heap.PlainList D its:=by
    obtain ⟨k,e⟩:=pl5
    have e1:o=_:=Option.some.inj (p5'.1.symm.trans e)
    exact ⟨k,by rw [p6.1]; exact congrArg some e1⟩
   have IX:Inv X pins σ H5 s6:=I2.call' (ch:=fp) I6.os I6.base I6.hok I6.bare fun b hb=>⟨(f2 b hb).2.2.2.1,(f2 b hb).2.1,(f2 b hb).2.2.2.2.1,(f2 b hb).2.2.2.2.2⟩
   exact hRR C D s6 H5 ys its m6 hCle (Qh _) hDC hn6 I6.free p6.2.1 pl6 v5 z5 IX qn
  ·refine wpAny_mono (T.item (aR X scope (own++frn) C s2 H2 fp) rfl rfl rfl hc i _ s5 σ5 H5 (fun _ _=>False) I5 (stat one fr5) st5 go) (fun r s6 hx9=>?_) fun _ _ z=>z
   obtain ⟨u,hr,h6⟩:=hx9
   subst hr
   refine wpAny_mono h6 (fun _ s7 hx9=>?_) fun _ _ z=>z
   obtain ⟨x,H7,I7,r7,y7,st7,fr7⟩:=hx9
   have I7':=I7.pinned (stat one fr7) (T.obj _ _ st7)
   refine wpAny_mono (hg C s2 H2 fp _ s7 σ5 H7 x u _ I7' r7 (step x H7 y7)) (fun _ s8 hx9=>?_) fun _ _ z=>z
   obtain ⟨σ8,H8,I8,q8⟩:=hx9
   refine wpAny_mono (hi2 C s2 H2 fp _ s8 σ8 H8 _ I8 q8) (fun v2 s9 h9=>wpAny_mono h9 (fun itv s10 h10=>?_) fun _ _ z=>z) fun _ _ z=>z
   obtain ⟨it2,fp2,tn2,J2,H10,e10,I10,T2,st10,f10,w10⟩:=h10
   subst e10
   have DfsX:D∉frs X.stack:=fun z=>by
    rcases Qm.mp (I2.stkSub D z) with e | e
    ·exact Jb _ (Qp I2.lt (by rw [hDg,e]; exact Qh _))
    ·exact I2.nofs (by rw [hDg]; exact Qh _) e
   have p5':=I5.pin (D,o) (by simp [aR])
   have pl10:s10.heap.PlainList D its:=by
    have p':=I10.pin (D,o) (by simp [aR])
    obtain ⟨k,e⟩:=pl5
    have e1:o=_:=Option.some.inj (p5'.1.symm.trans e)
    exact ⟨k,by rw [p'.1]; exact congrArg some e1⟩
   refine yM (Y:=aR X scope (own++frn) C s2 H2 fp) (ps:=kD fp s7.heap) (F:=N) (fun _ _ z=>z) hc T2 (hg2 C s2 H2 fp) (he C s2 H2 fp) hDC (.inr (by show s2.heap.objs.size<=D; rw [hDg]; exact Qh _)) cD (fun p hp=>by simp [aR] at hp) DfsX
    (fun p hp=>(below p.1 (flt p.1 (sT hp).1)).2) I10 pl10 v5 z5 st10 f10 w10 (fun s' σ' H' zs' its' o' I' pl' v' z' q'=>?_)
   obtain ⟨m',hm,w'⟩:=hN zs' σ' H' q'
   refine ⟨m',hm,i+1,σ',H',zs',its',o',I'.pins_of fun p hp=>?_,pl',v',z',T.keep _ _ _ st7 fun b hb o e=>(I'.pin (b,o) (Qt _ (Qr _ (cX hb e)))).1,fun b hb=>?_,w'⟩
   ·have e:=Qu.mp hp
    subst e
    exact I'.pin _ (Qt _ (Qq ..))
   ·obtain ⟨o,e,d⟩:=T.obj _ _ st7 b hb
    exact (I'.pin (b,o) (Qt _ (Qr _ (cX hb e)))).2.1
 exact codeAny_compStart_list (loop _ rfl) (T.self X.A 0 _ _ _ st3 (loop _ rfl))
theorem aB8 (S:CompOk X scope own fr frn) (hc:X.calm=true) (hi:PI X tg iter wi) (hg:∀ C s0 H0 fp,PG (aR X scope (own++frn) C s0 H0 fp) tg g) (hi2:∀ C s0 H0 fp,PI (aR X scope (own++frn) C s0 H0 fp) tg2 iter2 wi2) (hg2:∀ C s0 H0 fp,PG (aR X scope (own++frn) C s0 H0 fp) tg2 g2)
  (he:∀ C s0 H0 fp,PE (aR X scope (own++frn) C s0 H0 fp) elt te) (hs:∀ x,foldedSetIterable iter X.env x=pure x:=by intro _; rfl) (hs2:∀ C x,foldedSetIterable iter2 (compEnvC scope (cY X.env scope.names []) C X.env) x=pure x:=by intro _ _; rfl) :
  PE X (.ListComp elt [⟨tg,iter,[],0⟩,⟨tg2,iter2,[],0⟩] scope pos) (aEC own.length fr wi g wi2 g2 te):=by
 intro pins s σ H Q I h
 obtain ⟨p1,p2,p3,p4,p5,p6,p7⟩:=S.parts
 rw [eval_ListComp]
 refine wpAny_comprehension_free (use:=none) rfl hs (S.clo I) p1 p3 (thn (hi pins s σ H _ I h) fun v s1 h1=>thn h1 fun itv s2 h2=>?_)
 obtain ⟨it,fp,tn,J,H2,e,I2,T,st2,f2,hw⟩:=h2
 subst e
 refine wF (RR:=fun acc C=>compPost (model X.prog X.w) X.A X.xe none (EP X pins σ Q) acc C) (Q:=fun H ys=>∀ p,H p=none->Q (.ref p) (upd H p (.lst ys))) S hc I2 T st2 f2 hg hi2 hg2 he hs2 hw ?_
 intro C D s' H' ys its m hC hD hDC hns hHC hHD pl v z IX q
 have cne:∀ a,s2.heap.objs.size<=a->∀ x c,X.env.cells.lookup x=some c->c≠a:=fun a ha x c e z=>by
  obtain ⟨v,w⟩:=I2.cell x c e
  exact Jb _ (Qp w.lt (by rw [z]; exact ha))
 have pne:∀ a,s2.heap.objs.size<=a->∀ p∈X.pn++pins,p.1≠a:=fun a ha p hp z=>Jb _ (Qp (Ql (I2.pin p hp).1) (by rw [z]; exact ha))
 have lne:∀ a,s2.heap.objs.size<=a->a≠X.env.locals:=fun a ha z=>Jb _ (Qp I2.lt (by rw [<- z]; exact ha))
 refine ⟨m,hns,fun h' hs'=>⟨.ref D,upd H' D (.lst ys),?_,rfl,q D hHD⟩⟩
 have IT:Inv X pins σ (upd H' D (.lst ys)) s':=IX.track pl v z hHD (lne D hD) (Qz I2.sz hD) (cne D hD) (pne D hD)
 exact IT.turned (t':=s'.toks) (it:=C) (fun b o hb e=>(hs'.2 b hb).trans e) (by rw [aI (Ne.symm hDC)]; exact hHC) (lne C hC) (.inr (Qz I2.sz hC)) (cne C hC) (pne C hC)
end
section
variable {own:Nat} {fr:List Nat} {g g2:TG} {wi2:TI} {te:TE} {σ:St} {H:Hp} {Qf:Hp->List V->Prop} {K:PySem.W.Frag}
def aDu (g2:TG) (te:TE) (SH:St->Prop) (vs:List V) (σ2:St) (J2:It) (H4:Hp):Prop:=∃ SH2:St->Prop,SH2 σ2/\(∀ σ3,SH2 σ3->SH σ3)/\(∀ H',aE H4 H'->J2.stop vs.length H')/\(∀ j H',j < vs.length->aE H4 H'->J2.go j H') /\
 ∀ j v y σ3 H5 H6,vs[j]?=some v->SH2 σ3->aE H4 H5->J2.yld j H5 y H6->∀ Q:V->St->Hp->Prop,(∀ σ4 H7,SH2 σ4->aE H5 H7->Q v σ4 H7)->g2 y σ3 H6 fun σ4 H7=>te σ4 H7 fun z H8=>Q z σ4 H8
theorem tF {vss:List (List V)} {i:Nat} {vs:List V} (h:vss[i]?=some vs):(vss.take (i+1)).flatten=(vss.take i).flatten++vs:=by
 rw [Jh,h,Wn]; simp
theorem aB9 {vss:List (List V)} {i:Nat} {vs:List V} (h:vss[i]?=some vs):(vss.take i).flatten.length+vs.length<=vss.flatten.length:=by
 have e:=congrArg List.flatten (Zy (i+1) vss)
 rw [Wn,tF h] at e
 rw [<- e,Qk,Qk]
 omega
theorem aCa {J:It} {n:Nat} {vss:List (List V)} (SH:St->Prop) (hn:vss.flatten.length<=1000) (hl:vss.length=n) (hσ:SH (blk own fr σ)) (hstop:∀ H',aE H H'->J.stop n H') (hgo:∀ i H',i < n->aE H H'->J.go i H')
  (hs:∀ i vs x σ H1 H2,i < n->vss[i]?=some vs->SH σ->aE H H1->J.yld i H1 x H2->∀ P:St->It->Hp->Prop,(∀ σ2 J2 H4,aE H1 H4->aDu g2 te SH vs σ2 J2 H4->P σ2 J2 H4)->g x σ H2 fun σ2 H3=>wi2 σ2 H3 fun J2 H4=>P σ2 J2 H4)
  (hd:∀ H',aE H H'->Qf H' vss.flatten) :
  ∃ W:Nat->Nat->List V->St->Hp->Prop,(∃ m,W 0 m [] (blk own fr σ) H)/\∀ i m ys σ' H,W i m ys σ' H ->
   (J.stop i H/\Qf H ys) ∨
   (J.go i H/\∃ N:List V->St->Hp->Prop,(∀ ys' σ2 H2,N ys' σ2 H2->∃ m',m' < m/\W (i+1) m' ys' σ2 H2) /\
    ∀ x H',J.yld i H x H'->g x σ' H' fun σ2 H2=>wi2 σ2 H2 fun J2 H3=>∃ W2:Nat->Nat->List V->St->Hp->Prop,(∃ m2,W2 0 m2 ys σ2 H3)/\∀ j m2 zs σ3 H4,W2 j m2 zs σ3 H4->(J2.stop j H4/\N zs σ3 H4)∨(J2.go j H4/\∃ N2:List V->St->Hp->Prop,(∀ zs' σ4 H5,N2 zs' σ4 H5->∃ m3,m3 < m2/\W2 (j+1) m3 zs' σ4 H5) /\
     ∀ x H',J2.yld j H4 x H'->g2 x σ3 H' fun σ4 H5=>te σ4 H5 fun y H6=>zs.length < sizeLine/\N2 (zs++[y]) σ4 H6)):=by
 refine ⟨fun i m ys σ' H'=>i<=n/\m=n - i/\ys=(vss.take i).flatten/\SH σ'/\aE H H',⟨n,Jo _,rfl,rfl,hσ,aE.refl H⟩,?_⟩
 rintro i m ys σ' H1 ⟨hi,rfl,rfl,sh,s1⟩
 by_cases e:i=n
 ·subst e
  refine .inl ⟨hstop H1 s1,?_⟩
  rw [Jf (by omega)]
  exact hd H1 s1
 have hlt:i < n:=by omega
 refine .inr ⟨hgo i H1 hlt s1,fun ys' σ2 H2=>ys'=(vss.take (i+1)).flatten/\SH σ2/\aE H H2,fun ys' σ2 H2 ⟨e1,e2,e3⟩=>⟨n - (i+1),by omega,by omega,rfl,e1,e2,e3⟩,fun x H2 hy=>?_⟩
 have hv:vss[i]?=some vss[i]:=Qc (by omega)
 have hfl:=aB9 hv
 refine hs i vss[i] x σ' H1 H2 hlt hv sh s1 hy _ fun σ2 J2 H4 s4 hx9=>?_
 obtain ⟨SH2,sh2,hb,st2,go2,step2⟩:=hx9
 refine ⟨fun j m2 zs σ3 H5=>j<=(vss[i]).length/\m2=(vss[i]).length - j/\zs=(vss.take i).flatten++(vss[i]).take j/\SH2 σ3/\aE H4 H5,⟨_,Jo _,rfl,by rw [Zh,Zr],sh2,aE.refl _⟩,?_⟩
 rintro j m2 zs σ3 H5 ⟨hj,rfl,rfl,sh3,s5⟩
 by_cases e2:j=(vss[i]).length
 ·refine .inl ⟨e2 ▸ st2 H5 s5,?_,hb _ sh3,(s1.trans s4).trans s5⟩
  rw [tF hv,show (vss[i]).take j=vss[i] from Jf (by omega)]
 ·have hjl:j < (vss[i]).length:=by omega
  refine .inr ⟨go2 j H5 hjl s5,fun zs' σ4 H6=>zs'=(vss.take i).flatten++(vss[i]).take (j+1)/\SH2 σ4/\aE H4 H6,fun zs' σ4 H6 ⟨q1,q2,q3⟩=>⟨(vss[i]).length - (j+1),by omega,by omega,rfl,q1,q2,q3⟩,fun y H6 hy2=>?_⟩
  have hvj:(vss[i])[j]?=some (vss[i])[j]:=Qc hjl
  refine step2 j _ y σ3 H5 H6 hvj sh3 s5 hy2 _ fun σ4 H7 sh4 s7=>⟨yL (n:=((vss.take i).flatten++(vss[i]).take j).length+1) (by rw [Qk,Ja]; omega),?_,sh4,s5.trans s7⟩
  rw [Jh,hvj,<- Zv]
  rfl
end
section
variable {X:Cx}
end
section
variable {κ:Type} [DecidableEq κ]
def dP (kvs:List (κ×V)) (k:κ):Option V:=(kvs.find? fun kv=>decide (kv.1=k)).map (·.2)
def hV (kvs:List (κ×V)) (k:κ) (v:V):List (κ×V) :=
 if (kvs.any fun kv=>decide (kv.1=k))=true then kvs.map (fun kv=>if kv.1=k then (kv.1,v) else kv) else kvs++[(k,v)]
def aEa (kvs:List (κ×V)) (k:κ):List (κ×V):=kvs.filter fun kv=>decide (kv.1≠k)
theorem aCb {k:κ}:dP ([]:List (κ×V)) k=none:=rfl
theorem eF {p:κ×V} {r:List (κ×V)} {k:κ} (e:p.1=k):dP (p::r) k=some p.2:=by simp [dP,Ze,e]
theorem eO {p:κ×V} {r:List (κ×V)} {k:κ} (e:¬ p.1=k):dP (p::r) k=dP r k:=by simp [dP,Ze,e]
theorem gZ (k:κ):∀ kvs:List (κ×V),(kvs.any fun kv=>decide (kv.1=k))=(dP kvs k).isSome
 | []=>rfl
 | p::r=>by
  rw [Ye]
  by_cases e:p.1=k
  ·simp only [eF e,decide_eq_true e,Bool.true_or,Option.isSome_some]
  ·rw [eO e,decide_eq_false e,Bool.false_or]; exact gZ k r
theorem wG (k j:κ) (y:V):∀ kvs:List (κ×V),dP (kvs.map fun kv=>if kv.1=k then (kv.1,y) else kv) j=(dP kvs j).map fun x=>if j=k then y else x
 | []=>rfl
 | p::r=>by
  have ih:=wG k j y r
  rw [Jj]
  by_cases h:p.1=k
  ·rw [if_pos h]
   by_cases e:p.1=j
   ·rw [eF (p:=(p.1,y)) e,eF e,Xm,if_pos (e.symm.trans h)]
   ·rw [eO (p:=(p.1,y)) e,eO e,ih]
  ·rw [if_neg h]
   by_cases e:p.1=j
   ·rw [eF (p:=p) e,eF e,Xm,if_neg (fun z=>h (e.trans z))]
   ·rw [eO (p:=p) e,eO e,ih]
theorem nT (k j:κ) (y:V):∀ kvs:List (κ×V),dP kvs k=none->dP (kvs++[(k,y)]) j=if j=k then some y else dP kvs j
 | [],_=>by
  by_cases e:k=j
  ·rw [if_pos e.symm]; exact eF (p:=(k,y)) e
  ·rw [if_neg (fun z=>e z.symm)]; exact eO (p:=(k,y)) e
 | p::r,hn=>by
  rw [Ya]
  have hk:¬ p.1=k:=fun z=>by rw [eF z] at hn; cases hn
  rw [eO hk] at hn
  have ih:=nT k j y r hn
  by_cases e:p.1=j
  ·rw [eF e,eF e,if_neg (fun z=>hk (e.trans z))]
  ·rw [eO e,eO e,ih]
theorem wH (kvs:List (κ×V)) (k j:κ) (y:V):dP (hV kvs k y) j=if j=k then some y else dP kvs j:=by
 unfold hV
 by_cases a:(kvs.any fun kv=>decide (kv.1=k))=true
 ·rw [if_pos a,wG]
  rw [gZ] at a
  by_cases e:j=k
  ·obtain ⟨x,hx⟩:=Yv.mp a
   rw [if_pos e,e,hx,Xm,if_pos rfl]
  ·rw [if_neg e]
   cases dP kvs j with
   | none=>rfl
   | some x=>rw [Xm,if_neg e]
 ·rw [if_neg a]
  refine nT k j y kvs ?_
  rw [gZ] at a
  cases q:dP kvs k with
  | none=>rfl
  | some x=>rw [q] at a; exact (a rfl).elim
theorem fU (kvs:List (κ×V)) (k:κ) (v:V):(hV kvs k v).length<=kvs.length+1:=by
 unfold hV
 split
 ·rw [Qb]; omega
 ·rw [Qk,Jv,List.length_nil]; omega
theorem aCc {kvs:List (κ×V)} {k:κ} (v:V) (h:dP kvs k=none):hV kvs k v=kvs++[(k,v)]:=by
 unfold hV
 rw [gZ,h]
 exact if_neg (by decide)
theorem oU.isSome_eq {o:Option V} {u:Option Value} (r:oU o u):o.isSome=u.isSome:=by
 cases o with
 | none => cases u with
   | none=>rfl
   | some _=>exact (show False from r).elim
 | some _ => cases u with
   | none=>exact (show False from r).elim
   | some _=>rfl
theorem KV.val {kvs:List (κ×V)} {vs:List (κ×Value)} (r:KV kvs vs) (k:κ):oU (dP kvs k) (valueAt vs k):=by
 unfold KV at r
 induction r with
 | nil=>exact True.intro
 | @cons p q ps qs h t ih =>
  obtain ⟨h1,h2⟩:=h
  by_cases e:p.1=k
  ·have e':q.1=k:=h1.symm.trans e
   have b:valueAt (q::qs) k=some q.2:=by simp [valueAt,Ze,e']
   rw [eF e,b]; exact h2
  ·have e':¬ q.1=k:=fun z=>e (h1.trans z)
   have b:valueAt (q::qs) k=valueAt qs k:=by simp [valueAt,Ze,e']
   rw [eO e,b]; exact ih
theorem KV.any {kvs:List (κ×V)} {vs:List (κ×Value)} (r:KV kvs vs) (k:κ):(kvs.any fun kv=>decide (kv.1=k))=vs.any fun kv=>decide (kv.1=k):=by
 unfold KV at r
 induction r with
 | nil=>rfl
 | cons h t ih=>rw [Ye,Ye,ih,h.1]
theorem KV.repl {kvs:List (κ×V)} {vs:List (κ×Value)} (r:KV kvs vs) (k:κ) {y:V} {u:Value} (ry:bM y u) :
  KV (kvs.map fun kv=>if kv.1=k then (kv.1,y) else kv) (vs.map fun kv=>if kv.1=k then (kv.1,u) else kv):=by
 unfold KV at r ⊢
 induction r with
 | nil=>exact .nil
 | @cons p q ps qs h t ih =>
  rw [Jj,Jj]
  refine .cons ?_ ih
  obtain ⟨h1,h2⟩:=h
  by_cases e:p.1=k
  ·rw [if_pos e,if_pos (h1.symm.trans e)]; exact ⟨h1,ry⟩
  ·rw [if_neg e,if_neg (fun z=>e (h1.trans z))]; exact ⟨h1,h2⟩
theorem KV.put {kvs:List (κ×V)} {vs:List (κ×Value)} (r:KV kvs vs) (k:κ) {y:V} {u:Value} (ry:bM y u):KV (hV kvs k y) (stored vs k u):=by
 unfold hV stored
 rw [r.any k]
 by_cases e:(vs.any fun kv=>decide (kv.1=k))=true
 ·rw [if_pos e,if_pos e]; exact r.repl k ry
 ·rw [if_neg e,if_neg e]; exact Paired.snoc r ⟨rfl,ry⟩
theorem KV.keys {kvs:List (κ×V)} {vs:List (κ×Value)} (r:KV kvs vs):kvs.map (·.1)=vs.map (·.1):=by
 unfold KV at r
 induction r with
 | nil=>rfl
 | cons h t ih=>rw [Jj,Jj,ih,h.1]
theorem KV.length {kvs:List (κ×V)} {vs:List (κ×Value)} (r:KV kvs vs):kvs.length=vs.length:=Paired.length r
end
theorem tG {P:Program} {w:World} {k:Key} {u:Value} (r:bM (kV k) u):(bP P w).is k u=true:=by
 cases k with
 | inl i=>obtain ⟨t,e⟩:=(show ∃ t,u=Value.int i t from r); subst e; exact vL P w i t
 | inr x=>obtain ⟨t,e⟩:=(show ∃ t,u=Value.str x t from r); subst e; exact vM P w x t
theorem tH {P:Program} {w:World}:∀ {ks:List Key} {us:List Value},bG (ks.map kV) us->ItemsAre (bP P w) ks us
 | [],_,r=>by rw [Wu] at r; cases r; exact .nil
 | k::ks,_,r=>by
  rw [Jj] at r
  cases r with
  | cons h t=>exact .cons (tG h) (tH t)
abbrev KT (H:Hp):List (List Key×V)->List (List Key×Addr×Value)->Prop:=Paired fun p q=>p.1=q.1/\H q.2.1=some (.tup (p.1.map kV))/\bM p.2 q.2.2
theorem KT.val {H:Hp} {kvs:List (List Key×V)} {xs:List (List Key×Addr×Value)} (r:KT H kvs xs) (k:List Key):oU (dP kvs k) ((atKey xs k).map (·.2)):=by
 induction r with
 | nil=>exact True.intro
 | @cons p q ps qs h t ih =>
  obtain ⟨h1,_,h2⟩:=h
  by_cases e:p.1=k
  ·have e':q.1=k:=h1.symm.trans e
   have b:atKey (q::qs) k=some q.2:=by simp [atKey,Ze,e']
   rw [eF e,b]; exact h2
  ·have e':¬ q.1=k:=fun z=>e (h1.trans z)
   have b:atKey (q::qs) k=atKey qs k:=by simp [atKey,Ze,e']
   rw [eO e,b]; exact ih
theorem KT.repl {H:Hp} {kvs:List (List Key×V)} {xs:List (List Key×Addr×Value)} (r:KT H kvs xs) (k:List Key) {y:V} {u:Value} (ry:bM y u) :
  KT H (kvs.map fun kv=>if kv.1=k then (kv.1,y) else kv) (xs.map (putAt k u)):=by
 induction r with
 | nil=>exact .nil
 | @cons p q ps qs h t ih =>
  rw [Jj,Jj]
  refine .cons ?_ ih
  obtain ⟨h1,h2,h3⟩:=h
  unfold putAt
  by_cases e:p.1=k
  ·rw [if_pos e,if_pos (h1.symm.trans e)]; exact ⟨h1,h2,ry⟩
  ·rw [if_neg e,if_neg (fun z=>e (h1.trans z))]; exact ⟨h1,h2,h3⟩
theorem KT.put {H:Hp} {kvs:List (List Key×V)} {xs:List (List Key×Addr×Value)} (r:KT H kvs xs) (k:List Key) {b:Addr} {y:V} {u:Value} (hb:H b=some (.tup (k.map kV))) (ry:bM y u) :
  KT H (hV kvs k y) (storedH xs k b u):=by
 have e:(kvs.any fun kv=>decide (kv.1=k))=(atKey xs k).isSome:=by
  rw [gZ,(r.val k).isSome_eq,Wr]
 unfold hV storedH
 rw [e]
 by_cases q:(atKey xs k).isSome=true
 ·rw [if_pos q,if_pos q]; exact r.repl k ry
 ·rw [if_neg q,if_neg q]; exact Paired.snoc r ⟨rfl,hb,ry⟩
theorem KT.keeps {H H':Hp} {kvs:List (List Key×V)} {xs:List (List Key×Addr×Value)} (r:KT H kvs xs) (ht:∀ b ys,H b=some (.tup ys)->H' b=some (.tup ys)):KT H' kvs xs :=
 Paired.mapP r fun _ _ z=>⟨z.1,ht _ _ z.2.1,z.2.2⟩
section
variable {P:Program} {w:World} {H:Hp} {h:Heap} {a:Addr}
theorem aEb {u:HO} (ok:HOk P w H h) (e:Rd H a u):bW P w H h a u:=e.ok ok
theorem aAf {kvs:List (Key×V)} (ok:HOk P w H h) (e:Rd H a (.dK kvs)):kvs.length<=sizeLine/\(a==sysModules)=false/\∃ vs,KV kvs vs/\h.DictOf (bP P w) a vs :=
 show bW P w H h a (.dK kvs) from aEb ok e
theorem aFt {kvs:List (Key×V)} (ok:HOk P w H h) (e:H a=some (.dK kvs)):kvs.length<=sizeLine/\(a==sysModules)=false/\∃ vs,KV kvs vs/\h.DictOf (bP P w) a vs:=aAf ok (.inl e)
theorem uL {ks:List Key} (ok:HOk P w H h) (e:H a=some (.tup (ks.map kV))):(tupleKind (bP P w)).is h ks a:=by
 obtain ⟨_,its,n,r,e1⟩:=(show bW P w H h a (.tup (ks.map kV)) from ok a _ e)
 exact ⟨_,its.toArray,n,e1,rfl,rfl,by simpa using tH r⟩
theorem aAg {kvs:List (List Key×V)} (ok:HOk P w H h) (e:Rd H a (.dT kvs)):kvs.length<=sizeLine/\(a==sysModules)=false /\
  ∃ xs,KT H kvs xs/\h.DictOfH (tupleKind (bP P w)) a xs:=by
 obtain ⟨z,y,xs,r,o,es,ep,h1,h2,h3,h4,h5⟩:=(show bW P w H h a (.dT kvs) from aEb ok e)
 refine ⟨z,y,xs,r,o,es,ep,h1,h2,h3,h4,fun x hx=>?_,h5⟩
 have all:∀ {l:List (List Key×V)} {m:List (List Key×Addr×Value)},KT H l m->∀ x∈m,(tupleKind (bP P w)).is h x.1 x.2.1:=by
  intro l m q
  induction q with
  | nil=>intro x hx; exact nomatch hx
  | @cons p q ps qs hq t ih =>
   intro x hx
   rcases Qm.mp hx with e | hx
   ·subst e
    exact uL ok (by rw [<- hq.1]; exact hq.2.1)
   ·exact ih x hx
 exact all r x hx
theorem aFu {kvs:List (List Key×V)} (ok:HOk P w H h) (e:H a=some (.dT kvs)):kvs.length<=sizeLine/\(a==sysModules)=false /\
  ∃ xs,KT H kvs xs/\h.DictOfH (tupleKind (bP P w)) a xs:=aAg ok (.inl e)
end
def sK (H:Hp) (a:Addr) (y:V) (r:Option V):Prop :=
 (∃ kvs k,Rd H a (.dK kvs)/\y=kV k/\r=dP kvs k)∨∃ kvs k b,Rd H a (.dT kvs)/\y=.ref b/\H b=some (.tup (k.map kV))/\r=dP kvs k
def uM (H:Hp) (a:Addr) (y v:V) (H':Hp):Prop :=
 (∃ kvs k,H a=some (.dK kvs)/\y=kV k/\kvs.length < sizeLine/\H'=upd H a (.dK (hV kvs k v))) ∨
 ∃ kvs k b,H a=some (.dT kvs)/\y=.ref b/\H b=some (.tup (k.map kV))/\kvs.length < sizeLine/\H'=upd H a (.dT (hV kvs k v))
theorem sK.k {H:Hp} {a:Addr} {kvs:List (Key×V)} {k:Key} (e:H a=some (.dK kvs)):sK H a (kV k) (dP kvs k):=.inl ⟨kvs,k,.inl e,rfl,rfl⟩
theorem sK.t {H:Hp} {a b:Addr} {kvs:List (List Key×V)} {k:List Key} (e:H a=some (.dT kvs)) (eb:H b=some (.tup (k.map kV))):sK H a (.ref b) (dP kvs k):=.inr ⟨kvs,k,b,.inl e,rfl,eb,rfl⟩
theorem uM.k {H:Hp} {a:Addr} {kvs:List (Key×V)} {k:Key} {v:V} (e:H a=some (.dK kvs)) (hl:kvs.length < sizeLine):uM H a (kV k) v (upd H a (.dK (hV kvs k v))):=.inl ⟨kvs,k,e,rfl,hl,rfl⟩
theorem uM.t {H:Hp} {a b:Addr} {kvs:List (List Key×V)} {k:List Key} {v:V} (e:H a=some (.dT kvs)) (eb:H b=some (.tup (k.map kV))) (hl:kvs.length < sizeLine) :
  uM H a (.ref b) v (upd H a (.dT (hV kvs k v))):=.inr ⟨kvs,k,b,e,rfl,eb,hl,rfl⟩
section
variable {X:Cx} {pins:List (Addr×Obj)} {σ:St} {H:Hp} {s:Shared} {a:Addr} {y v:V} {u r:Value} {o:Option V} {A:Around} {E:Value->Shared->Prop}
theorem Inv.big (I:Inv X pins σ H s):sysModules < s.heap.objs.size:=by
 have h:mainGlobals < s.heap.objs.size:=(I.mod.glob.keeps I.bk).lt
 exact Nat.lt_trans (by decide) h
theorem aA9 {Q:Value->Shared->Prop} (hu:A.units+1 < cLine) (I:Inv X pins σ H s) (g:sK H a y (some v)) (ry:bM y u) (h:∀ w' s',Inv X pins σ H s'->bM v w'->Q w' s') :
  wpAny (model X.prog X.w) A (getItem (.ref a) u) Q E s:=by
 rcases g with ⟨kvs,k,e,ey,l⟩ | ⟨kvs,k,b,e,ey,eb,l⟩
 ·subst ey
  obtain ⟨z,hd,vs,rel,dd⟩:=aAf I.hok e
  obtain ⟨w',hw,rw'⟩:=oU.some_of (v:=v) (o:=valueAt vs k) (by rw [l]; exact rel.val k)
  exact wpAny_getItem_of (tG ry) dd.mapOf hw (h w' _ (I.tok _) rw')
 ·subst ey
  cases (show u=Value.ref b from ry)
  obtain ⟨z,hd,xs,rel,dd⟩:=aAg I.hok e
  obtain ⟨w',hw,rw'⟩:=oU.some_of (v:=v) (o:=(atKey xs k).map (·.2)) (by rw [l]; exact rel.val k)
  obtain ⟨p,hp,hp2⟩:=Option.map_eq_some_iff.mp hw
  refine wpAny_getItem_heap (tupleKind_room_in1 hu) (uL I.hok eb) dd hp ?_
  rw [hp2]
  exact h w' _ (I.tok _) rw'
theorem aDv {Q:Value->Shared->Prop} (hu:A.units+1 < cLine) (I:Inv X pins σ H s) (g:sK H a y o) (ry:bM y u) (h:∀ s',Inv X pins σ H s'->Q (.bool (!o.isSome)) s') :
  wpAny (model X.prog X.w) A (compareOp .NotIn u (.ref a)) Q E s:=by
 rcases g with ⟨kvs,k,e,ey,l⟩ | ⟨kvs,k,b,e,ey,eb,l⟩
 ·subst ey
  obtain ⟨z,hd,vs,rel,dd⟩:=aAf I.hok e
  refine wpAny_notIn_of (tG ry) hd dd.mapOf ?_
  rw [<- (rel.val k).isSome_eq,<- l]
  exact h _ (I.tok _)
 ·subst ey
  cases (show u=Value.ref b from ry)
  obtain ⟨z,hd,xs,rel,dd⟩:=aAg I.hok e
  refine wpAny_notIn_heap (tupleKind_room_in1 hu) (uL I.hok eb) hd dd ?_
  have q:=(rel.val k).isSome_eq
  rw [Wr] at q
  rw [<- q,<- l]
  exact h _ (I.tok _)
theorem uN {h':Heap} {t':Nat} {ob:HO} (I:Inv X pins σ H s) (mu:Mut (H a)) (hs:Heap.SameBut a s.heap h') (he:∃ q,h'.get? a=some q) (new:bW X.prog X.w (upd H a ob) h' a ob) :
  Inv X pins σ (upd H a ob) { s with heap:=h',toks:=t' } :=
 I.write (x:=a) (e:=a) mu (.inl rfl) (fun b q hb z=>(hs.2 b hb).trans z) he new
theorem aCd {P:Program} {w:World} {H':Hp} {h':Heap} {kvs:List (Key×V)} {vs:List (Key×Value)} (z:kvs.length<=sizeLine) (hd:(a==sysModules)=false) (rel:KV kvs vs) (dd:h'.DictOf (bP P w) a vs) :
  bW P w H' h' a (.dK kvs):=⟨z,hd,vs,rel,dd⟩
theorem aBa {H':Hp} {Q:Unit->Shared->Prop} (hu:A.units+1 < cLine) (I:Inv X pins σ H s) (g:uM H a y v H') (ry:bM y u) (rv:bM v r) (h:∀ s',Inv X pins σ H' s'->Q () s') :
  wpAny (model X.prog X.w) A (setItem (.ref a) u r) Q E s:=by
 rcases g with ⟨kvs,k,e,ey,l,eH⟩ | ⟨kvs,k,b,e,ey,eb,l,eH⟩
 ·subst ey eH
  obtain ⟨z,hd,vs,rel,dd⟩:=aFt I.hok e
  have hz:vs.length<=sizeLine:=by rw [<- rel.length]; exact z
  have hl:(hV kvs k v).length<=sizeLine:=by have:=fU kvs k v; omega
  refine wpAny_setItem_pairs (hsz:=hz) (tG ry) dd fun h' dd' hs=>h _ ?_
  have he:∃ q,h'.get? a=some q:=let ⟨q,_,_,hq,_⟩:=dd'; ⟨q,hq⟩
  exact uN I (by rw [e]; exact True.intro) hs he (aCd hl hd (rel.put k rv) dd')
 ·subst ey eH
  cases (show u=Value.ref b from ry)
  obtain ⟨z,hd,xs,rel,dd⟩:=aFu I.hok e
  have hz:xs.length<=sizeLine:=by rw [<- Paired.length rel]; exact z
  have hl:(hV kvs k v).length<=sizeLine:=by have:=fU kvs k v; omega
  refine wpAny_setItem_heap (hsz:=hz) (tupleKind_room_in1 hu) (uL I.hok eb) dd fun h' dd' hs=>h _ ?_
  obtain ⟨q,es,ep,hq,h2,h3,h4,_,h5⟩:=dd'
  refine uN I (by rw [e]; exact True.intro) hs ⟨q,hq⟩ ⟨hl,hd,_,(rel.put k eb rv).keeps fun c ys ec=>?_,q,es,ep,hq,h2,h3,h4,h5⟩
  rw [aI (aEW ec e (fun z=>nomatch z))]
  exact ec
end
section
variable {X:Cx} {pins:List (Addr×Obj)} {σ:St} {H:Hp} {s:Shared} {a:Addr} {kvs:List (Key×V)} {k:Key} {u:Value} {A:Around} {E:Value->Shared->Prop}
end
def aFv (i:Expr):Prop:=∀ ov iv,subscripted i false ov iv=operate [ov,iv] (getItem ov iv)
theorem aDw {prog:Program} {w:World} {A:Around} {E:Value->Shared->Prop} {s:Shared} {env:Env} {value slice:Expr} {pos:Pos} {T id:String} {Q:Value->Shared->Prop}
  (hl:typeLookup (.type T) "__getitem__" = pure (some (.builtin id))) (hs:aFv slice)
  (h:wpAny (model prog w) A (eval value env) (fun o s₁=>wpAny (model prog w) A (eval slice env) (fun i s₂=>s₂.TypeIs o T/\wpAny (model prog w) A (getItem o i) Q E s₂) E s₁) E s) :
  wpAny (model prog w) A (eval (.Subscript value slice pos) env) Q E s:=by
 refine Subscript_ (wpAny_mono h (fun o s₁ h₁=>wpAny_mono h₁ (fun i s₂ h₂=>?_) fun _ _ x=>x) fun _ _ x=>x)
 obtain ⟨hT,h₂⟩:=h₂
 unfold subscriptTail
 refine wpAny_bind ?_
 rw [getitemInPython_of_ne hT.not_modules]
 refine wpAny_bind (wpAny_specialOf hT hl ?_)
 have fin:wpAny (model prog w) A (subscripted slice false o i) (fun r s₃=>wpAny (model prog w) A (letTemporaryGo value o r >>= fun _=>pure r) Q E s₃) E s₂:=by
  rw [hs o i]
  exact wpAny_operating (wpAny_mono h₂ (fun r s₃ h₃=>wpAny_bind (wpAny_letTemporaryGo (wpAny_pure h₃))) fun _ _ x=>x)
 first
  | exact wpAny_pure (wpAny_bind fin)
  | exact wpAny_bind (wpAny_pure (wpAny_bind fin))
  | exact wpAny_bind fin
theorem wI {X:Cx} {pins:List (Addr×Obj)} {σ:St} {H:Hp} {s:Shared} {a:Addr} {y:V} {o:Option V} (I:Inv X pins σ H s) (g:sK H a y o):s.TypeIs (.ref a) "dict" := by
 rcases g with ⟨kvs,k,e,_,_⟩ | ⟨kvs,k,b,e,_,_,_⟩
 ·obtain ⟨_,_,vs,_,dd⟩:=aAf I.hok e
  exact dd.typeIs
 ·obtain ⟨_,_,xs,_,dd⟩:=aAg I.hok e
  exact dd.typeIs
def aFw (td ty:TE):TE:=fun σ H Q=>td σ H fun x H1=>ty σ H1 fun y H2=>∃ a v,x=.ref a/\sK H2 a y (some v)/\Q v H2
def aDx (ty td:TE):TE:=fun σ H Q=>ty σ H fun y H1=>td σ H1 fun x H2=>∃ a o,x=.ref a/\sK H2 a y o/\Q (.bl (!o.isSome)) H2
def aFx (td ty tv:TE):TS:=fun D σ H=>tv σ H fun v H1=>td σ H1 fun x H2=>ty σ H2 fun y H3=>∃ a H4,x=.ref a/\uM H3 a y v H4/\D.nx σ H4
section
variable {X:Cx} {o i e value:Expr} {pos pos' tpos:Pos} {td ty tv:TE}
theorem uO (hu:X.A.units+1 < cLine) (ho:PE X o td) (hi:PE X i ty) (hs:aFv i):PE X (.Subscript o i pos) (aFw td ty):=by
 intro pins s σ H Q I h
 refine aDw PySem.F.slot_dict_getitem.lookup hs (thn (ho pins s σ H _ I h) fun u s1 ⟨x,H1,I1,rx,q1⟩=>thn (hi pins s1 σ H1 _ I1 q1) fun iv s2 hx9=>?_)
 obtain ⟨y,H2,I2,ry,a,v,ex,g,q2⟩:=hx9
 subst ex
 obtain rfl:u=Value.ref a:=rx
 exact ⟨wI I2 g,aA9 hu I2 g ry fun w' s3 I3 rw'=>⟨v,H2,I3,rw',q2⟩⟩
theorem aBb (hu:X.A.units+1 < cLine) (hi:PE X i ty) (ho:PE X o td):PC X .NotIn i o (aDx ty td):=by
 intro pins s σ H Q I h
 refine thn (hi pins s σ H _ I h) fun iv s1 ⟨y,H1,I1,ry,q1⟩=>thn (ho pins s1 σ H1 _ I1 q1) fun u s2 hx9=>?_
 obtain ⟨x,H2,I2,rx,a,ov,ex,g,q2⟩:=hx9
 subst ex
 obtain rfl:u=Value.ref a:=rx
 exact aDv hu I2 g ry fun s3 I3=>⟨.bl (!ov.isSome),H2,I3,rfl,q2⟩
theorem uP (hu:X.A.units+1 < cLine) (ho:PE X o td) (hi:PE X i ty) (hv:PE X value tv) (hs:swapsWith value (some (.Subscript o i pos')) pos.line X.env=pure false) :
  PS X (.Assign [.Subscript o i pos'] value pos) (aFx td ty tv):=by
 intro pins s σ H D I h
 refine wpAny_Assign_Subscript (thn (hv pins s σ H _ I h) fun r s1 ⟨v,H1,I1,rv,q1⟩=>thn (ho pins s1 σ H1 _ I1 q1) fun u s2 ⟨x,H2,I2,rx,q2⟩=>thn (hi pins s2 σ H2 _ I2 q2) fun iv s3 hx9=>?_) hs
 obtain ⟨y,H3,I3,ry,a,H4,ex,g,q3⟩:=hx9
 subst ex
 obtain rfl:u=Value.ref a:=rx
 exact aBa hu I3 g ry rv fun s4 I4=>⟨σ,H4,I4,q3⟩
end
theorem wJ {P:Program} {w:World} {H:Hp} (h:Heap) (hb:sysModules < h.objs.size):bW P w H (h.push { cls:=.type "dict",data:=.dict #[] }) h.objs.size (.dK []) :=
 ⟨Jo _,beq_eq_false_iff_ne.mpr (Ne.symm (Je hb)),[],.nil,Heap.DictOf.new h⟩
def aED:TE:=fun _ H Q=>∀ p,H p=none->Q (.ref p) (upd H p (.dK []))
section
variable {X:Cx} {pos:Pos}
theorem wK:PE X (.Dict [] [] pos) aED:=fun pins s σ H Q I h =>
 wpAny_Dict_empty ⟨.ref s.heap.objs.size,_,I.laid (a:=s.heap.objs.size) (o:=.dK []) (t':=s.toks) (fun _ _ q=>Qa _ q) (Qh _) (wJ s.heap I.big),rfl,h _ (I.hok.fresh (Qh _))⟩
end
def NF (H0:Hp) (a:Addr):Prop:=∀ o u,H0 a≠some (.frz o u)
section
variable {X:Cx} {pins:List (Addr×Obj)} {σ:St} {H:Hp} {s:Shared} {a:Addr}
theorem Inv.freeze {kvs:List (Key×V)} {o:Obj} (I:Inv X pins σ H s) (e:H a=some (.dK kvs)) (ho:s.heap.get? a=some o):Inv X pins σ (upd H a (.frz o (.dK kvs))) s:=by
 have m:Mut (H a):=by rw [e]; trivial
 have q:bW X.prog X.w H s.heap a (.dK kvs):=I.hok a _ e
 exact I.write (x:=a) (e:=a) (t':=s.toks) m (.inl rfl) (fun b u _ z=>z) ⟨o,ho⟩ ⟨ho,q⟩
theorem Inv.nf {kvs:List (Key×V)} (I:Inv X pins σ H s) (e:H a=some (.dK kvs)):NF X.H₀ a:=fun o u z=>by
 have:=I.base.frzs a o u z
 rw [e] at this; cases this
theorem Inv.thaw {kvs:List (Key×V)} {o:Obj} (I:Inv X pins σ H s) (e:H a=some (.frz o (.dK kvs))) (nf:NF X.H₀ a):Inv X pins σ (upd H a (.dK kvs)) s:=by
 have ne:∀ b,H b=none->b≠a:=fun b n z=>by rw [z,e] at n; cases n
 have nt:∀ b xs,H b=some (.tup xs)->b≠a:=fun b xs n z=>by rw [z,e] at n; cases n
 have no:∀ b x,H b=some (.own x)->b≠a:=fun b xs n z=>by rw [z,e] at n; cases n
 obtain ⟨ho,q⟩:s.heap.get? a=some o/\bW X.prog X.w H s.heap a (.dK kvs):=I.hok a _ e
 have un:Un X.fs X.ex X.H₀ (upd H a (.dK kvs)) X.s₀.heap s.heap:=by
  refine ⟨I.base.keep,I.base.slot,fun b ob q n hx=>?_,I.base.there,fun b xs q=>?_,fun b ob u q=>?_,fun b ps q=>?_⟩
  ·have z:=I.base.free b ob q n hx
   rw [aI (ne b z)]; exact z
  ·have z:=I.base.tups b xs q
   rw [aI (nt b xs z)]; exact z
  ·have z:=I.base.frzs b ob u q
   have n:b≠a:=fun y=>nf ob u (y ▸ q)
   rw [aI n]; exact z
  ·obtain ⟨m,z⟩:=I.base.tbls b ps q
   have n:b≠a:=fun y=>by rw [y,e] at z; cases z
   exact ⟨m,by rw [aI n]; exact z⟩
 refine ⟨I.ok,I.os,I.bare,un,I.loc,I.cell,?_,fun x c h=>?_,fun p hp=>?_,fun b u h=>?_,I.len⟩
 ·rw [aI (ne _ I.free)]; exact I.free
 ·have z:=I.freeC x c h
  rw [aI (ne _ z)]; exact z
 ·obtain ⟨p1,p2,p3⟩:=I.pin p hp
  exact ⟨p1,by rw [aI (ne _ p2)]; exact p2,p3⟩
 ·by_cases hb:b=a
  ·subst hb
   rw [aC] at h
   cases h
   exact bW.stay q (fun _ _ _ z=>z) (fun c z=>by rw [aI (no c _ z)]; exact z) (fun c xs z=>by rw [aI (nt c xs z)]; exact z)
  ·rw [aI hb] at h
   exact bW.stay (I.hok b u h) (fun _ _ _ z=>z) (fun c z=>by rw [aI (no c _ z)]; exact z) (fun c xs z=>by rw [aI (nt c xs z)]; exact z)
end
def Itd (a:Addr) (o:Obj) (kvs:List (Key×V)):It :=
 ⟨fun i H=>H a=some (.frz o (.dK kvs))/\i < kvs.length,fun i H x H'=>H'=H/\∃ p,kvs[i]?=some p/\x=kV p.1,fun i H=>H a=some (.frz o (.dK kvs))/\i=kvs.length⟩
theorem wL {P:Program} {w:World} {k:Key} {u:Value} (h:(bP P w).is k u=true):bM (kV k) u:=by
 rcases cO h with ⟨i,t,rfl,rfl⟩ | ⟨x,t,rfl,rfl⟩
 ·exact ⟨t,rfl⟩
 ·exact ⟨t,rfl⟩
theorem nU {P:Program} {w:World} {h:Heap} {a:Addr} {o:Obj} {es:Array DictEntry} {ep:Nat} {vs:List (Key×Value)} (ho:h.get? a=some o) (hd:o.data=.dict es ep) (d:h.DictOf (bP P w) a vs):h.DictAt (bP P w) a vs ep:=by
 obtain ⟨o',es',ep',q1,q2,q3,r⟩:=d
 rw [ho] at q1; cases q1
 rw [hd] at q3; cases q3
 exact ⟨o,es,ho,q2,hd,r⟩
theorem aBc {P:Program} {w:World} {K:PySem.W.Frag} {tg:Expr} (a it:Addr) (o:Obj) (es:Array DictEntry) (ep:Nat) (hd:o.data=.dict es ep) (kvs:List (Key×V)) :
  Turn P w K tg (Itd a o kvs) [it] it (fun i h=>h.IsKeyIter it a i kvs.length ep) where
 mem:=by simp
 obj:=fun i h st b hb=>by
  have e:b=it:=by simpa using hb
  subst e
  obtain ⟨o,e,c,d⟩:=st
  exact ⟨o,e,fun v z=>by rw [d] at z; cases z⟩
 keep:=fun i h h' st k=>st.at fun o e=>k it (by simp) o e
 item:=by
  intro X hP hw hK hc i pins s σ H E I hf st hg
  subst hP hw hK
  obtain ⟨hA,hi⟩:=hg
  obtain ⟨ho,hz,hs,vs,kv,dd⟩:s.heap.get? a=some o/\bW X.prog X.w H s.heap a (.dK kvs):=I.hok a _ hA
  have da:=nU ho hd dd
  have hl:kvs.length=vs.length:=kv.length
  obtain ⟨f0,f1,f2,f3,f4,f5⟩:=hf it (by simp)
  obtain ⟨⟨k,x⟩,hx⟩:∃ p,vs[i]?=some p:=⟨vs[i]'(by omega),by simp⟩
  rw [hl] at st
  refine wpAny_pyNext_dict_item st da hx fun key h' hkey st' sb=>?_
  have I1:Inv X pins σ H { s with heap:=h' }:=I.turned (t':=s.toks) (fun b o hb e=>(sb.2 b hb).trans e) f0 f1 f3 f4 f5
  obtain ⟨o',e',c',d'⟩:=id st'
  have hk:kvs[i]?=some (kvs[i]):=Qc hi
  have hkk:(kvs[i]).1=k:=by
   have e:=kv.keys
   have e1:(kvs.map (·.1))[i]?=some (kvs[i]).1:=by rw [Qg,hk]; rfl
   have e2:(vs.map (·.1))[i]?=some k:=by rw [Qg,hx]; rfl
   rw [e,e2] at e1
   exact (Option.some.inj e1).symm
  rw [<- hl] at st'
  exact ⟨key,rfl,zT (s:={ s with heap:=h' }) e' c' d' (by decide) ⟨kV k,H,I1,wL hkey,⟨rfl,_,hk,by rw [hkk]⟩,st',fun b hb=>(hf b hb).1⟩⟩
 done:=by
  intro X hP hw hK hc i pins s σ H E I hf st hg
  subst hP hw hK
  obtain ⟨hA,hi⟩:=hg
  obtain ⟨ho,hz,hs,vs,kv,dd⟩:s.heap.get? a=some o/\bW X.prog X.w H s.heap a (.dK kvs):=I.hok a _ hA
  have da:=nU ho hd dd
  have hl:kvs.length=vs.length:=kv.length
  obtain ⟨f0,f1,f2,f3,f4,f5⟩:=hf it (by simp)
  rw [hl] at st
  exact wpAny_pyNext_dict_end (I.ok.hd hc) st da (by simp; omega) fun h' eb=>⟨rfl,I.turned (t':=s.toks) (fun b o hb e=>eb b o hb e) f0 f1 f3 f4 f5⟩
 self:=fun _ _ _ _ _ st h=>wpAny_pyIter_keyiter st h
section
variable {X:Cx} {tg:Expr}
def aFy (H0:Hp) (td:TE):TI:=fun σ H R=>td σ H fun x H1=>∃ a kvs,x=.ref a/\H1 a=some (.dK kvs)/\∀ o,NF H0 a->R (Itd a o kvs) (upd H1 a (.frz o (.dK kvs)))
theorem aAh {d:Expr} {td:TE} (hl:PE X d td):PI X tg d (aFy X.H₀ td):=by
 intro pins s σ H R I h
 refine thn (hl pins s σ H _ I h) fun v s1 hx9=>?_
 obtain ⟨x,H1,I1,r1,q1⟩:=hx9
 obtain ⟨a,kvs,e,hq,q⟩:=q1
 subst e
 cases r1
 obtain ⟨hz,hs,vs,kv,dd⟩:bW X.prog X.w H1 s1.heap a (.dK kvs):=I1.hok a _ hq
 obtain ⟨o,es,ep,ho,oe,hd,r⟩:=id dd
 have da:=nU ho hd dd
 refine wpAny_pyIter_dict hs da ?_
 have I2:=(I1.freeze hq ho).kept (h':=s1.heap.push { cls:=.type "dict_keyiterator",data:=.fields #[.ref a,.int 0 0,.int vs.length 0,.int ep 0] }) (t':=s1.toks) fun b o e=>Qa _ e
 have nA:a≠s1.heap.objs.size:=Je (Ql ho)
 refine ⟨s1.heap.objs.size,[s1.heap.objs.size],_,_,_,rfl,I2,aBc a _ o es ep hd kvs,?_,fun b hb=>?_,q o (I1.nf hq)⟩
 ·refine ⟨_,Qi _ rfl,rfl,?_⟩
  rw [kv.length]; rfl
 ·have e:b=s1.heap.objs.size:=by simpa using hb
  subst e
  exact I1.fpOk (Qh _) (by rw [aI (Ne.symm nA)]; exact I1.hok.fresh (Qh _))
def aFz (H0:Hp) (t:TS):TS:=fun D σ H=>t { D with nx:=fun σ' H'=>∃ a o kvs,H' a=some (.frz o (.dK kvs))/\NF H0 a/\D.nx σ' (upd H' a (.dK kvs)) } σ H
theorem aDy {st:Stmt} {t:TS} (h:PS X st t):PS X st (aFz X.H₀ t):=by
 intro pins s σ H D I q
 refine thn (h pins s σ H _ I q) fun f s1 z=>?_
 cases f with
 | next =>
  obtain ⟨σ',H',I',a,o,kvs,e,nf,k⟩:=z
  exact ⟨σ',_,I'.thaw e nf,k⟩
 | brk=>exact z
 | cont=>exact z
 | ret u=>exact z
end
theorem aCe {a:Addr} {o:Obj} {kvs:List (Key×V)} {g:TG} {tb:TS} {D:Ends} {σ:St} {H:Hp} (Pv:Nat->St->Hp->Prop) (h0:Pv 0 σ H) (hl:∀ i σ H,i<=kvs.length->Pv i σ H->H a=some (.frz o (.dK kvs)))
  (hs:∀ i p σ H,kvs[i]?=some p->Pv i σ H->g (kV p.1) σ H fun σ2 H2=>tb { D with nx:=Pv (i+1),ct:=Pv (i+1),bk:=D.nx } σ2 H2) (hd:∀ σ H,Pv kvs.length σ H->D.nx σ H) :
  ∃ W:Nat->Nat->St->Hp->Prop,(∃ m,W 0 m σ H)/\∀ i m σ H,W i m σ H ->
   ((Itd a o kvs).stop i H/\D.nx σ H)∨((Itd a o kvs).go i H/\∃ N:St->Hp->Prop,(∀ σ' H',N σ' H'->∃ m',m' < m/\W (i+1) m' σ' H')/\∀ x H',(Itd a o kvs).yld i H x H'->g x σ H' fun σ2 H2=>tb { D with nx:=N,ct:=N,bk:=D.nx } σ2 H2):=by
 refine ⟨fun i m σ H=>m=kvs.length - i/\i<=kvs.length/\Pv i σ H,⟨kvs.length,by simp,Jo _,h0⟩,?_⟩
 rintro i m σ H ⟨rfl,hi,p⟩
 have q:=hl i σ H hi p
 by_cases hlt:i < kvs.length
 ·refine .inr ⟨⟨q,hlt⟩,Pv (i+1),fun σ' H' p'=>⟨kvs.length - (i+1),by omega,rfl,hlt,p'⟩,fun x H' y=>?_⟩
  obtain ⟨rfl,v,hv,rfl⟩:=y
  exact hs i v σ H' hv p
 ·have e:i=kvs.length:=by omega
  subst e
  exact .inl ⟨⟨q,rfl⟩,hd σ H p⟩
def aEE (tk tv:TE):TE:=fun σ H Q=>∀ p,H p=none->tk σ (upd H p (.dK [])) fun x H1=>tv σ H1 fun y H2=>∃ k,x=kV k/\H2 p=some (.dK [])/\Q (.ref p) (upd H2 p (.dK [(k,y)]))
section
variable {X:Cx} {pos:Pos} {ek ev:Expr} {tk tv:TE}
theorem aCf (hk:PE X ek tk) (hv:PE X ev tv) (he:evalEachOpt [some ek] X.env = [some (eval ek X.env)]:=by rfl) (he2:evalEach [ev] X.env = [eval ev X.env]:=by rfl):PE X (.Dict [some ek] [ev] pos) (aEE tk tv):=by
 intro pins s σ H Q I h
 have I0:Inv X pins σ (upd H s.heap.objs.size (.dK [])) { s with heap:=s.heap.push { cls:=.type "dict",data:=.dict #[] } }:=I.laid (a:=s.heap.objs.size) (o:=.dK []) (t':=s.toks) (fun _ _ q=>Qa _ q) (Qh _) (wJ s.heap I.big)
 have h0:=h s.heap.objs.size (I.hok.fresh (Qh _))
 refine wpAny_Dict_pairs (knd:=bP X.prog X.w) (pairs:=[(eval ek X.env,do let x<-eval ev X.env; standAt pos; pure x)]) (by rw [he,he2]; rfl) (by simp) (by simp) ?_
 refine evalPairs_cons (thn (hk pins _ σ _ _ I0 h0) fun kv s1 hx9=>?_)
 obtain ⟨x,H1,I1,r1,q1⟩:=hx9
 refine wpAny_bind (thn (hv pins _ σ _ _ I1 q1) fun vv s2 hx9=>?_)
 obtain ⟨y,H2,I2,r2,q2⟩:=hx9
 refine wpAny_bind (wpAny_standAt (wpAny_pure (evalPairs_nil ?_)))
 obtain ⟨k,rfl,hp,q⟩:=q2
 obtain ⟨hz,hs,vs,kv',dd⟩:bW X.prog X.w H2 s2.heap s.heap.objs.size (.dK []):=I2.hok _ _ hp
 have ev0:vs = []:=by
  have:=kv'.length
  exact Xx.mp this.symm
 subst ev0
 refine ⟨[(k,vv)],⟨tG r1,rfl,trivial⟩,dd,fun h' dd' sb=>?_⟩
 have em:merged ([]:List (Key×Value)) [(k,vv)] = [(k,vv)]:=by simp [merged,stored]
 rw [em] at dd'
 obtain ⟨o',es',ep',ho',_⟩:=id dd'
 have mu:Mut (H2 s.heap.objs.size):=by rw [hp]; trivial
 refine ⟨.ref s.heap.objs.size,_,uN (t':=s2.toks+1) I2 mu sb ⟨_,ho'⟩ (aCd (kvs:=[(k,y)]) (by simp [sizeLine_eq]) hs (.cons ⟨rfl,r2⟩ .nil) dd'),rfl,q⟩
end
section
variable {prog:Program} {w:World} {A:Around} {E:Value->Shared->Prop} {s:Shared}
def iQ (h:Heap) (u:Value) (i:Int) (v:Value):Prop:=∃ p,u=.ref p/\((∃ its:Array Value,h.IsTuple p its/\0<=i/\i < 1000/\its[i.toNat]?=some v)∨∃ its:Array Value,h.IsList p its/\0<=i/\i < 1000/\its[i.toNat]?=some v)
theorem iQ.keeps {h h':Heap} {u:Value} {i:Int} {v:Value} (x:iQ h u i v) (k:∀ b o,h.get? b=some o->h'.get? b=some o):iQ h' u i v:=by
 obtain ⟨p,rfl,⟨its,⟨o,ho,r⟩,q⟩ | ⟨its,⟨o,ho,r⟩,q⟩⟩:=x
 ·exact ⟨p,rfl,.inl ⟨its,⟨o,k _ _ ho,r⟩,q⟩⟩
 ·exact ⟨p,rfl,.inr ⟨its,⟨o,k _ _ ho,r⟩,q⟩⟩
theorem mQ {i:Int} {n:Nat} (h0:0<=i) (h1:i.toNat < n):seqIndex? i n=some i.toNat:=by
 unfold seqIndex?
 have e:¬ (i < 0):=by omega
 simp only [e,if_false]
 have e2:(decide (0<=i) && decide (i < (n:Int)))=true:=by simp; omega
 rw [if_pos e2]
theorem aDz {env:Env} {vn xn:Str} {p1 p2 p3:Pos} {m:Str->Option Value} {c:Addr} {u v:Value} {i:Int} {t:Tok} {Q:Value->Shared->Prop} (hk:env.scope.kind=.function) (hv:env.kindOf vn=some .free) (hx:env.kindOf xn=some .local)
  (hc:env.cells.lookup vn=some c) (hC:s.heap.IsCell c (some u)) (hn:s.heap.Ns env.locals m) (hm:m xn=some (.int i t)) (hI:iQ s.heap u i v) (h:Q v s)
  (d1:(vn==("__debug__" : Str))=false) (d2:(vn==("__classdict__" : Str))=false) (d3:(xn==("__debug__" : Str))=false) :
  wpAny (model prog w) A (eval (.Subscript (.Name vn p1) (.Name xn p2) p3) env) Q E s:=by
 refine Subscript_ (wpAny_Name (wpAny_loadName_free hk hv hc hC ?_ d2) d1)
 refine wpAny_Name (wpAny_loadName_local hk hx hn hm ?_) d3
 obtain ⟨p,rfl,⟨its,hp,i0,i1,e⟩ | ⟨its,hp,i0,i1,e⟩⟩:=hI
 ·have hlt:i.toNat < its.size:=(Array.getElem?_eq_some_iff.mp e).1
  exact subscriptTail_builtinR (x:=v) hp.typeIs slot_tuple_getitem.lookup
   (getItem_tuple (j:=i.toNat) (Q:=fun r s'=>r=v/\Q r s') hp (by omega) (by omega) (mQ i0 hlt) e ⟨rfl,h⟩)
 ·have hlt:i.toNat < its.size:=(Array.getElem?_eq_some_iff.mp e).1
  exact subscriptTail_builtinR (x:=v) hp.typeIs slot_list_getitem.lookup
   (wpAny_getItem_list (Q:=fun r s'=>r=v/\Q r s') hp (by omega) (by omega) e ⟨rfl,h⟩)
theorem aCg {f c c':Addr} {q nm vn xn:Str} {params:Arguments} {scope:Scope} {cl:List (Str×Addr)} {pm ctv u v:Value} {p1 p2 p3:Pos} {i:Int} {t:Tok} {Q:Value->Shared->Prop} (hroom:A.depth < recursionLimit) (hlim:s.heap.NoLimit)
  (hf:s.heap.get? f=some { cls:=.type "function",data:=.func (PySem.W.kla_fn nm q params (.Subscript (.Name vn p1) (.Name xn p2) p3) scope cl pm (.ref c') ctv) }) (hcd:s.heap.CodeRec (.ref c') q)
  (hbind:bindArgs (PySem.W.kla_fn nm q params (.Subscript (.Name vn p1) (.Name xn p2) p3) scope cl pm (.ref c') ctv) ⟨[.int i t],[]⟩=pure [(xn,.int i t)])
  (hx:scope.names.lookup xn=some .local) (hv:scope.names.lookup vn=some .free) (hco:scope.isCoroutine=false) (hgen:scope.isGenerator=false) (hk:scope.kind=.function) (hcell:∀ x∈scope.names,x.2≠.cell)
  (hc:cl.lookup vn=some c) (hC:s.heap.IsCell c (some u)) (hI:iQ s.heap u i v) (h:∀ h' tk,(∀ b o,s.heap.get? b=some o->h'.get? b=some o)->Q v { s with heap:=h',toks:=tk })
  (d1:(vn==("__debug__" : Str))=false) (d2:(vn==("__classdict__" : Str))=false) (d3:(xn==("__debug__" : Str))=false) :
  wpAny (model prog w) A (call (.ref f) [.int i t]) Q E s:=by
 refine wpAny_call (PySem.W.kla_callFunE hroom hf rfl hco hgen rfl hcd ?_)
 rw [hbind]
 refine wpAny_pure (wpAny_newFunctionEnv hcell (fun y hy=>by rw [Qu.mp hy]; exact hx) (fun h₁ hns hsb=>⟨hlim.fresh _ hsb,?_⟩) hk)
 have hk₁:∀ b o,s.heap.get? b=some o->h₁.get? b=some o:=fun b o e=>hsb.extBut b o (Je (Ql e)) (Qa _ e)
 obtain ⟨oc,hoc,hdc⟩:=hC
 refine PySem.W.kla_codeExpr (aDz (env:=newEnv scope s.heap.objs.size mainGlobals cl (q ++ ".<locals>.") (some f) (.ref c') none builtinsNs) (m:=fun x=>[(xn,Value.int i t)].reverse.lookup x) (t:=t) hk hv hx hc ⟨oc,hk₁ _ _ hoc,hdc⟩ hns ?_ (hI.keeps hk₁) (h h₁ _ hk₁) d1 d2 d3)
 simp [List.lookup]
section
variable {R:Result->Shared->Prop} {I:Addr} {fp wr:List Addr} {n:Nat} {Pv:Nat->Value->Prop} {St:Nat->Heap->Prop} {f:Addr} {kf:Nat->Int} {L:List (Addr×Obj)}
def aCh (prog:Program) (w:World) (A:Around) (f:Addr) (L:List (Addr×Obj)) (n:Nat) (Pv:Nat->Value->Prop) (kf:Nat->Int):Prop :=
 ∀ i v (s:Shared) (Q:Value->Shared->Prop) (E:Value->Shared->Prop),i < n->Pv i v->(∀ p∈L,s.heap.get? p.1=some p.2) ->
  (∀ h' tk t,(∀ b o,s.heap.get? b=some o->h'.get? b=some o)->Q (.int (kf i) t) { s with heap:=h',toks:=tk })->wpAny (model prog w) A (call (.ref f) [v]) Q E s
abbrev btK (kf:Nat->Int):Nat->Nat->Bool:=fun i j=>decide (kf i < kf j)
theorem uQ (W:Walks prog w A.in1 I fp wr n Pv St) (hkey:aCh prog w A.in1 f L n Pv kf) (S:Addr) (hSf:S∉fp) (hL:∀ p∈L,p.1∉wr/\p.1≠S) :
  ∀ (k j:Nat) (s:Shared) (vb:Value) (t:Tok) (c:Nat),n - (j+1)=k->j+1<=n->St (j+1) s.heap->Pv (argBest (btK kf) j) vb ->
  s.heap.get? S=some { cls:=.type "list",dict:=none,data:=.seq #[vb,.int (kf (argBest (btK kf) j)) t] c,slots:=#[] }->(∀ p∈L,s.heap.get? p.1=some p.2) ->
  (∀ v h' tk,Pv (argBest (btK kf) (n - 1)) v->(∀ b o,b∉wr->b≠S->s.heap.get? b=some o->h'.get? b=some o)->R (.ok (.ret v)) { s with heap:=h',toks:=tk }) ->
  codeAny (model prog w) A (.builtin "min.loop" ⟨[.ref I,.ref f,.ref S],[]⟩) R s:=by
 have hSw:S∉wr:=fun h=>hSf (W.sub _ h)
 have hname:(toString "min" ++ toString ".loop" : String) = "min.loop" := by decide
 intro k
 induction k with
 | zero =>
  intro j s vb t c hk hj hst hPb hS hLs hR
  have hin:j+1=n:=by omega
  refine codeAny_builtin F.entry_min_loop ?_
  rw [Around.under_plainId F.plain_min_loop _]
  show wpAny _ A.in1 (seqItems? (.ref S) >>= _) _ _ s
  refine wpAny_bind (wpAny_seqItems hS rfl ?_)
  show wpAny _ A.in1 (tryCatch (pyNext (.ref I)) _ >>= _) _ _ s
  refine wpAny_bind (wpAny_tryCatch (W.done s _ _ (hin ▸ hst) fun h' tk kk=>?_))
  have hS':=kk S _ hSw hS
  show wpAny _ A.in1 (updateSeq S (fun _=>#[]) >>= _) _ _ _
  refine wpAny_bind ?_
  refine wpAny_updateSeq hS' rfl (wpAny_bind (wpAny_letGo (wpAny_pure ?_)))
  exact hR vb _ _ (by rw [<- hin]; exact hPb) fun b o hb hbS e=>(Ju _ _ (Ne.symm hbS)).trans (kk b o hb e)
 | succ k ih =>
  intro j s vb t c hk hj hst hPb hS hLs hR
  have hlt:j+1 < n:=by omega
  refine codeAny_builtin F.entry_min_loop ?_
  rw [Around.under_plainId F.plain_min_loop _]
  show wpAny _ A.in1 (seqItems? (.ref S) >>= _) _ _ s
  refine wpAny_bind (wpAny_seqItems hS rfl ?_)
  show wpAny _ A.in1 (tryCatch (pyNext (.ref I)) _ >>= _) _ _ s
  refine wpAny_bind (wpAny_tryCatch (W.item (j+1) s _ _ hlt hst fun v h1 tk1 hP hst1 kk1=>?_))
  have hS1:=kk1 S _ hSw hS
  show wpAny _ A.in1 (tryCatch (holding [v] (call (.ref f) [v])) _ >>= _) _ _ _
  refine wpAny_bind (wpAny_tryCatch (wpAny_holding (hkey (j+1) v _ _ _ hlt hP (fun p hp=>kk1 _ _ (hL p hp).1 (hLs p hp)) fun h2 tk2 t2 kk2=>?_)))
  have hS2:=kk2 S _ hS1
  have hst2:St (j+1+1) h2:=W.frame _ _ _ hst1 fun b _ o e=>kk2 b o e
  show wpAny _ A.in1 (tryCatch (holding [v,.int (kf (j+1)) t2] (richCompare .Lt (.int (kf (j+1)) t2) (.int (kf (argBest (btK kf) j)) t) >>= _)) _ >>= _) _ _ _
  have hcmp:CmpOf prog w A.in1 .Lt (fun i u=>∃ t,u=.int (kf i) t) (btK kf):=CmpOf.ints_lt kf fun i v h=>h
  refine wpAny_bind (wpAny_tryCatch (wpAny_holding (wpAny_bind (hcmp (j+1) (argBest (btK kf) j) _ _ _ _ _ ⟨_,rfl⟩ ⟨_,rfl⟩ ?_))))
  refine wpAny_bind (wpAny_holding (wpAny_truthy_bool ?_))
  refine wpAny_bind (wpAny_letGo (wpAny_pure ?_))
  have kk:∀ b o,b∉wr->s.heap.get? b=some o->h2.get? b=some o:=fun b o hb e=>kk2 b o (kk1 b o hb e)
  cases hb:btK kf (j+1) (argBest (btK kf) j) with
  | true =>
   simp only [if_true]
   refine wpAny_bind ?_
   refine wpAny_updateSeq hS2 rfl (wpAny_bind (wpAny_letGo ?_))
   rw [hname]
   have eb:argBest (btK kf) (j+1)=j+1:=by simp only [argBest,hb,if_true]
   refine wpAny_pure ⟨plainId_quiet F.plain_min_loop _,ih (j+1) _ v t2 _ (by omega) hlt (W.frame _ _ _ hst2 fun b hbf o e=>?_) (by rw [eb]; exact hP) (by rw [eb]; exact Xs _ hS2 rfl) (fun p hp=>?_) fun v' h' tk hP' kk'=>?_⟩
   ·exact (Ju _ _ (fun h:S=b=>hSf (by rw [h]; exact hbf))).trans e
   ·exact (Ju _ _ (Ne.symm (hL p hp).2)).trans (kk _ _ (hL p hp).1 (hLs p hp))
   ·exact hR v' h' tk hP' fun b o hb hbS e=>kk' b o hb hbS ((Ju _ _ (Ne.symm hbS)).trans (kk b o hb e))
  | false =>
   simp only [Xz,if_false]
   refine wpAny_bind (wpAny_letGo ?_)
   rw [hname]
   have eb:argBest (btK kf) (j+1)=argBest (btK kf) j:=by simp only [argBest,hb,Xz,if_false]
   refine wpAny_pure ⟨plainId_quiet F.plain_min_loop _,ih (j+1) _ vb t c (by omega) hlt hst2 (by rw [eb]; exact hPb) (by rw [eb]; exact hS2) (fun p hp=>kk _ _ (hL p hp).1 (hLs p hp)) fun v' h' tk hP' kk'=>?_⟩
   exact hR v' h' tk hP' fun b o hb hbS e=>kk' b o hb hbS (kk b o hb e)
theorem sL (W:Walks prog w A.in1 I fp wr n Pv St) (hkey:aCh prog w A.in1 f L n Pv kf) (S:Addr) (hSf:S∉fp) (hL:∀ p∈L,p.1∉wr/\p.1≠S) (hn:0 < n) {s:Shared} {c:Nat} (hst:St 0 s.heap)
  (hS:s.heap.get? S=some { cls:=.type "list",dict:=none,data:=.seq #[] c,slots:=#[] }) (hLs:∀ p∈L,s.heap.get? p.1=some p.2)
  (hR:∀ v h' tk,Pv (argBest (btK kf) (n - 1)) v->(∀ b o,b∉wr->b≠S->s.heap.get? b=some o->h'.get? b=some o)->R (.ok (.ret v)) { s with heap:=h',toks:=tk }) :
  codeAny (model prog w) A (.builtin "min.loop" ⟨[.ref I,.ref f,.ref S],[]⟩) R s:=by
 have hSw:S∉wr:=fun h=>hSf (W.sub _ h)
 have hname:(toString "min" ++ toString ".loop" : String) = "min.loop" := by decide
 refine codeAny_builtin F.entry_min_loop ?_
 rw [Around.under_plainId F.plain_min_loop _]
 show wpAny _ A.in1 (seqItems? (.ref S) >>= _) _ _ s
 refine wpAny_bind (wpAny_seqItems hS rfl ?_)
 show wpAny _ A.in1 (tryCatch (pyNext (.ref I)) _ >>= _) _ _ s
 refine wpAny_bind (wpAny_tryCatch (W.item 0 s _ _ hn hst fun v h1 tk1 hP hst1 kk1=>?_))
 have hS1:=kk1 S _ hSw hS
 show wpAny _ A.in1 (tryCatch (holding [v] (call (.ref f) [v])) _ >>= _) _ _ _
 refine wpAny_bind (wpAny_tryCatch (wpAny_holding (hkey 0 v _ _ _ hn hP (fun p hp=>kk1 _ _ (hL p hp).1 (hLs p hp)) fun h2 tk2 t2 kk2=>?_)))
 have hS2:=kk2 S _ hS1
 have hst2:St (0+1) h2:=W.frame _ _ _ hst1 fun b _ o e=>kk2 b o e
 show wpAny _ A.in1 (updateSeq S (fun _=>#[v,.int (kf 0) t2]) >>= _) _ _ _
 refine wpAny_bind ?_
 refine wpAny_updateSeq hS2 rfl ?_
 rw [hname]
 have kk:∀ b o,b∉wr->s.heap.get? b=some o->h2.get? b=some o:=fun b o hb e=>kk2 b o (kk1 b o hb e)
 refine wpAny_pure ⟨plainId_quiet F.plain_min_loop _,uQ W hkey S hSf hL _ 0 _ v t2 _ rfl hn (W.frame _ _ _ hst2 fun b hbf o e=>?_) hP (Xs _ hS2 rfl) (fun p hp=>?_) fun v' h' tk hP' kk'=>?_⟩
 ·exact (Ju _ _ (fun h:S=b=>hSf (by rw [h]; exact hbf))).trans e
 ·exact (Ju _ _ (Ne.symm (hL p hp).2)).trans (kk _ _ (hL p hp).1 (hLs p hp))
 ·exact hR v' h' tk hP' fun b o hb hbS e=>kk' b o hb hbS ((Ju _ _ (Ne.symm hbS)).trans (kk b o hb e))
theorem uR (a k:Value):argsOk "min" ⟨[a],[(Str.ofString "key",k)]⟩:=by unfold argsOk; kernel_rfl
theorem uS {id:String} {b:Builtin} {args:List Value} {kw:List (Str×Value)} {Q:Value->Shared->Prop} (hk:builtinKind id=none) (hp:plainId id=true)
  (hb:entryFor table id=some b) (ha:argsOk id ⟨args,kw⟩)
  (hc:wpAny (model prog w) A.in1 (b ⟨args,kw⟩) (fun fin s'=>match fin with
   | .done f=>(match (Except.ok f:Result) with | .ok (.ret v)=>Q v s' | .ok _=>False | .error e=>E e s')
   | .again c'=>c'.quiet=true/\codeAny (model prog w) A c' (fun r s'=>match r with | .ok (.ret v)=>Q v s' | .ok _=>False | .error e=>E e s') s') E s) :
  wpAny (model prog w) A (call (.builtin id) args kw) Q E s:=by
 refine wpAny_call (codeAny_call_builtin hp hb ?_)
 simp only [checkBuiltinCall,hk]
 cases hsig:Manifest.signature? id with
 | none=>exact wpAny_pure hc
 | some sig =>
  simp only [argsOk,hsig] at ha
  have h2:Bind.checkArgs id sig ⟨args,kw⟩=pure ():=ha
  show wpAny _ A.in1 (Bind.checkArgs id sig ⟨args,kw⟩) _ _ s
  rw [h2]; exact wpAny_pure hc
theorem uT {x:Value} {Q:Value->Shared->Prop}
  (h:wpAny (model prog w) A.in1 (pyIter x) (fun it s₂=>∃ I fp wr n Pv St kf L,it=.ref I/\Walks prog w A.in1 I fp wr n Pv St/\St 0 s₂.heap/\(∀ b∈fp,b < s₂.heap.objs.size)/\0 < n/\aCh prog w A.in1 f L n Pv kf /\
   (∀ p∈L,p.1∉wr)/\(∀ p∈L,s₂.heap.get? p.1=some p.2) /\
   ∀ v h' tk,Pv (argBest (btK kf) (n - 1)) v->(∀ b o,b∉wr->s₂.heap.get? b=some o->h'.get? b=some o)->Q v { s₂ with heap:=h',toks:=tk }) E s) :
  wpAny (model prog w) A (call (.builtin "min") [x] [(Str.ofString "key",.ref f)]) Q E s:=by
 have hname:(toString "min" ++ toString ".loop" : String) = "min.loop" := by decide
 refine uS F.kind_min F.plain_min F.entry_min (uR _ _) ?_
 show wpAny _ A.in1 (Builtin.Builtins.bindParams "min" ["key", "default"] 0 ⟨[],[(Str.ofString "key",.ref f)]⟩ >>= _) _ _ s
 refine wpAny_bind (wpAny_of_eq (show Builtin.Builtins.bindParams "min" ["key", "default"] 0 ⟨[],[(Str.ofString "key",.ref f)]⟩=pure [some (.ref f),none] from rfl) ?_)
 refine wpAny_bind (wpAny_pure ?_)
 refine wpAny_bind (wpAny_mono h (fun it s₂ h₂=>?_) fun _ _ e=>e)
 obtain ⟨I,fp,wr,n,Pv,St,kf,L,rfl,W,hst,hfp,hn,hkey,hLw,hLs,hQ⟩:=h₂
 refine wpAny_bind (wpAny_newObj_type ?_)
 have hSf:s₂.heap.objs.size∉fp:=fun hm=>Jb _ (hfp _ hm)
 rw [hname]
 refine wpAny_pure ⟨plainId_quiet F.plain_min_loop _,sL W hkey s₂.heap.objs.size hSf (fun p hp=>⟨hLw p hp,Je (Ql (hLs p hp))⟩) hn (W.frame _ _ _ hst fun b _ o e=>Qa _ e) (Qi _ rfl) (fun p hp=>Qa _ (hLs p hp)) fun v h' tk hP hk=>?_⟩
 exact hQ v h' tk hP fun b o hbw e=>hk b o hbw (Je (Ql e)) (Qa _ e)
end
end
structure Lm (K:PySem.W.Frag) (mg:Str->Option Value) (base:Heap) (c P:Addr):Prop where
 hd:PySem.W.codeHdIn K c P=true
 gP:mainGlobals≠P
 bu:base.BuiltinsAt mg P
theorem lM {pos p0:Pos} {c cv:Value}:∀ {l:List Value},TriplesOk l->codeAmong pos (l++[rawInt p0.line,rawInt p0.col,c])=some cv->codeAmong pos l=some cv∨cv=c
 | [],_,e=>by
  simp only [Zb,rawInt,codeAmong] at e
  split at e
  ·exact .inr (Option.some.inj e).symm
  ·cases e
 | .int a t::.int b u::x::r,h,e=>by
  simp only [Ya,codeAmong] at e ⊢
  split
  ·rename_i hc
   rw [if_pos hc] at e
   exact .inl e
  ·rename_i hc
   rw [if_neg hc] at e
   exact lM (show TriplesOk r from h) e
section
variable {X:Cx} {pins:List (Addr×Obj)} {σ:St} {H:Hp} {s:Shared} {c P c':Addr} {q:Str} {ps:Array Value} {h':Heap} {t':Nat}
theorem Inv.grown {p0:Pos} (I:Inv X pins σ H s) (hT:H P=some (.tab q)) (hx:Heap.ExtBut P s.heap h') (hge:s.heap.objs.size<=c') (hcr:h'.CodeRec (.ref c') q) (hP0:s.heap.get? P=some (PySem.W.tabObj ps)) (hPt:h'.get? P=some (PySem.W.tabObj (ps++#[rawInt p0.line,rawInt p0.col,.ref c']))) :
  Inv X pins σ (upd H c' (.own P)) { s with heap:=h',toks:=t' }:=by
 have hf:H c'=none:=I.hok.fresh hge
 have hn:∀ b,H b=none->b≠P:=fun b n z=>by rw [z,hT] at n; cases n
 have hc:∀ b u,H b=some u->b≠c':=fun b u n z=>by rw [z,hf] at n; cases n
 have hlt:∀ b o,s.heap.get? b=some o->b≠c':=fun b o e=>Je (Qp (Ql e) hge)
 obtain ⟨c2,oc,vs,tq,ec,hoc,hdc,hv⟩:=hcr
 cases ec
 refine I.un ⟨fun b o e n _ _=>hx b o (hn b n) e,fun b o e n _ _=>⟨o.slots,hx b o (hn b n) e⟩,fun b o e n _=>by rw [aI (hlt b o e)]; exact n,fun b o e _=>?_,fun b xs e=>by rw [aI (hc b _ e)]; exact e,fun b o u e=>by rw [aI (hc b _ e)]; exact e,fun b ps e=>⟨#[],by rw [aI (hc b _ e),e]; simp⟩⟩ ?_
 ·by_cases hb:b=P
  ·subst hb; exact ⟨_,hPt⟩
  ·exact ⟨o,hx b o hb e⟩
 ·intro b u e
  by_cases hb:b=c'
  ·subst hb
   rw [aC] at e; cases e
   exact ⟨oc,hoc⟩
  ·rw [aI hb] at e
   by_cases hbP:b=P
   ·subst hbP
    rw [hT] at e; cases e
    obtain ⟨ps0,e0,tr,r⟩:∃ ps:Array Value,s.heap.get? b=some { cls:=.none,data:=.fields ps }/\TriplesOk ps.toList/\∀ (pos:Pos) (cv:Value),codeAmong pos ps.toList=some cv->∃ (c:Addr) (o:Obj) (vs:Array Value) (t:Tok),cv=.ref c/\H c=some (.own b)/\s.heap.get? c=some o/\o.data=.fields vs/\(vs[1]?:Option Value)=some (.str q t):=I.hok b _ hT
    rw [hP0] at e0
    cases e0
    have el:(ps++#[rawInt p0.line,rawInt p0.col,Value.ref c']).toList=ps.toList++[rawInt p0.line,rawInt p0.col,.ref c']:=by simp
    refine ⟨_,hPt,by rw [el]; exact TriplesOk_snoc _ _ _ _ tr,fun pos cv z=>?_⟩
    rw [el] at z
    rcases lM tr z with z | rfl
    ·obtain ⟨c3,o3,vs3,t3,r1,r2,r3,r4⟩:=r pos cv z
     have n3:c3≠b:=fun y=>by rw [y,hT] at r2; cases r2
     exact ⟨c3,o3,vs3,t3,r1,by rw [aI (hc _ _ r2)]; exact r2,hx _ _ n3 r3,r4⟩
    ·exact ⟨c',oc,vs,tq,rfl,aC,hoc,hdc,hv⟩
   ·refine (I.hok b u e).stay (fun d v hd z=>hx d v ?_ z) (fun d z=>by rw [aI (hc _ _ z)]; exact z) fun d xs z=>by rw [aI (hc _ _ z)]; exact z
    rcases hd with rfl | hd
    ·exact hbP
    ·intro z
     rw [z,hT] at hd; cases hd
theorem aCi {params:Arguments} {body:Expr} {scope:Scope} {pos:Pos} {cl:List (Str×Addr)} {Q:Value->Shared->Prop} {E:Value->Shared->Prop} (I:Inv X pins σ H s) (Z:Lm X.K X.mg X.base c P) (hcode:X.env.code=.ref c) (hT:H P=some (.tab q)) (hq:X.env.qual ++ "<lambda>" = q)
  (hdef:defaultsOf params X.env=([],[])) (hcl:closureFor scope X.env=pure cl)
  (h:∀ f c' ctv pm s' H',Inv X pins σ H' s'->aE H H'->(∀ b o,b≠P->s.heap.get? b=some o->s'.heap.get? b=some o) ->
   s'.heap.get? f=some { cls:=.type "function",data:=.func (PySem.W.kla_fn "<lambda>" q params body scope cl pm (.ref c') ctv) }->s'.heap.CodeRec (.ref c') q->Q (.ref f) s') :
  wpAny (model X.prog X.w) X.A (eval (.Lambda params body scope pos) X.env) Q E s:=by
 obtain ⟨ps,hP,tr,r⟩:∃ ps:Array Value,s.heap.get? P=some { cls:=.none,data:=.fields ps }/\TriplesOk ps.toList/\∀ (pos:Pos) (cv:Value),codeAmong pos ps.toList=some cv->∃ (c:Addr) (o:Obj) (vs:Array Value) (t:Tok),cv=.ref c/\H c=some (.own P)/\s.heap.get? c=some o/\o.data=.fields vs/\(vs[1]?:Option Value)=some (.str q t):=I.hok P _ hT
 have hg:s.heap.Ns mainGlobals X.mg:=I.mod.glob.keeps I.bk
 have C:PySem.W.CodeHd s.heap c P:=PySem.W.codeHd_of_K I.kIn Z.hd
 have hb:s.heap.BuiltinsAt X.mg P:=by
  obtain ⟨bm,o,e1,e2,e3,e4,e5,e6⟩:=Z.bu
  exact ⟨bm,o,e1,e2,e3,e4,I.bk _ _ e5,e6⟩
 refine PySem.W.kla_eval hdef ?_
 rw [hq]
 cases hf:codeAmong pos ps.toList with
 | none =>
  refine PySem.W.kla_makeFunction hcl I.ok.glob hg hcode C hP tr hf Z.gP hb fun c' ctv h' tk hx hge hlt hcr hPt=>?_
  have I1:Inv X pins σ (upd H c' (.own P)) { s with heap:=h',toks:=tk }:=I.grown hT hx hge hcr hP hPt
  have I2:=I1.kept (h':=h'.push (PySem.W.kla_obj "<lambda>" q params body scope cl ((X.mg "__name__").getD .none) c' ctv)) (t':=tk) fun b o e=>Qa _ e
  refine h _ c' ctv _ _ _ I2 (aE.new (I.hok.fresh hge)) (fun b o hbP e=>Qa _ (hx b o hbP e)) (Qi _ rfl) ?_
  obtain ⟨c2,oc,vs,tq,ec,hoc,r⟩:=hcr
  exact ⟨c2,oc,vs,tq,ec,Qa _ hoc,r⟩
 | some cv =>
  obtain ⟨c',o,vs,t,rfl,r2,r3,r4,r5⟩:=r pos cv hf
  refine PySem.W.kla_makeFunctionHit hcl I.ok.glob hg hcode C hP tr hf hb fun ctv h' tk kk hsz=>?_
  have I2:=I.kept (h':=h'.push { cls:=.type "function",data:=.func (PySem.W.kla_fn "<lambda>" q params body scope cl ((X.mg "__name__").getD .none) (.ref c') ctv) }) (t':=tk) fun b o e=>Qa _ (kk b o e)
  exact h _ c' ctv _ _ _ I2 (aE.refl H) (fun b o _ e=>Qa _ (kk b o e)) (Qi _ rfl) ⟨c',o,vs,t,rfl,Qa _ (kk _ _ r3),r4,r5⟩
end
theorem lN (num:Nat->Int):∀ k,∀ l,l < argBest (btK num) k->num (argBest (btK num) k) < num l
 | 0=>fun l hl=>by simp [argBest] at hl
 | k+1=>fun l hl=>by
  have h2:=(argBest_lt num k).2
  simp only [argBest] at hl ⊢
  by_cases hc:num (k+1) < num (argBest (btK num) k)
  ·rw [if_pos (show btK num (k+1) (argBest (btK num) k)=true from decide_eq_true hc)] at hl ⊢
   have:=h2 l (by omega)
   show num (k+1) < num l
   have e:num (argBest (fun i j=>decide (num i < num j)) k)=num (argBest (btK num) k):=rfl
   omega
  ·rw [if_neg (show ¬ btK num (k+1) (argBest (btK num) k)=true from fun z=>hc (of_decide_eq_true z))] at hl ⊢
   exact lN num k l hl
def aAi (K:PySem.W.Frag) (H:Hp) (x:V) (ns:List Int):Prop:=∃ a,x=.ref a/\(SqL K H a (ns.map V.int)∨SqT K H a (ns.map V.int)∨∃ kvs:List (Key×V),H a=some (.dK kvs)/\kvs.map (·.1)=ns.map Sum.inl)
def aAj (K:PySem.W.Frag) (H:Hp) (u:V) (n k:Int):Prop:=0<=n/\n < 1000/\∃ a xs,u=.ref a/\(SqT K H a xs∨SqL K H a xs)/\xs[n.toNat]?=some (.int k)
def aDA (K:PySem.W.Frag) (P:Addr) (q:Str) (iv:Nat) (te:TE):TE:=fun σ H Q=>te σ H fun x H1=>∃ (ns:List Int) (kf:Int->Int) (u:V),aAi K H1 x ns/\0 < ns.length/\H1 P=some (.tab q)/\σ[iv]?=some (some u)/\(∀ n∈ns,aAj K H1 u n (kf n)) /\
 ∀ (j:Nat) (m:Int) (H2:Hp),aE H1 H2->ns[j]?=some m->(∀ n∈ns,kf m<=kf n)->(∀ (l:Nat) (n:Int),l < j->ns[l]?=some n->kf m < kf n)->Q (.int m) H2
section
variable {X:Cx} {pins:List (Addr×Obj)} {σ:St} {H:Hp} {s:Shared}
theorem yN {A:Around} {x:V} {u:Value} {ns:List Int} {Q:Value->Shared->Prop} {E:Value->Shared->Prop} (hh:A.handled=none) (I:Inv X pins σ H s) (hx:aAi X.K H x ns) (r:bM x u)
  (h:∀ (It:Addr) fp (Pv:Nat->Value->Prop) St s2,Walks X.prog X.w A It fp [It] ns.length Pv St->(∀ i v,Pv i v->∃ n t,ns[i]?=some n/\v=.int n t)->St 0 s2.heap->(∀ b∈fp,b < s2.heap.objs.size)->s.heap.objs.size<=It ->
   (∀ b o,s.heap.get? b=some o->s2.heap.get? b=some o)->(∃ h2,s2={ s with heap:=h2 })->Q (.ref It) s2):wpAny (model X.prog X.w) A (pyIter u) Q E s:=by
 obtain ⟨a,rfl,hx⟩:=hx
 cases r
 rcases hx with hx | hx | ⟨kvs,hx,hk⟩
 ·obtain ⟨its,rv,p,hz⟩:=I.list hx
  have hl:=rv.length
  rw [Qb] at hl
  have ht:=p.isList
  have hlt:a < s.heap.objs.size:=by obtain ⟨o,e,_⟩:=ht; exact Ql e
  have hne:a≠s.heap.objs.size:=Je hlt
  have W0:=Walks.list (prog:=X.prog) (w:=X.w) (A:=A) hh s.heap.objs.size a hne its.toArray
  rw [show its.toArray.size=ns.length by rw [Qj,hl]] at W0
  refine wpAny_pyIter_list ht (h s.heap.objs.size [s.heap.objs.size,a] _ _ { s with heap:=s.heap.push { cls:=.type "list_iterator",data:=.fields #[.ref a,.int 0 0] } } W0 (fun i v e=>?_) ⟨⟨_,Qi _ rfl,rfl,rfl⟩,ht.push _⟩ (fun b hb=>?_) (Qh _) (fun b o e=>Qa _ e) ⟨_,rfl⟩)
  ·have e':its[i]?=some v:=by simpa using e
   obtain ⟨hi,_⟩:=Qd.mp e'
   obtain ⟨w',ew,rw'⟩:=rv.get (i:=i) (x:=.int (ns[i]'(by omega))) (by rw [Qg,Qc (show i < ns.length by omega)]; rfl)
   rw [e'] at ew; cases ew
   obtain ⟨t,rfl⟩:=rw'
   exact ⟨_,t,Qc (show i < ns.length by omega),rfl⟩
  ·show b < (s.heap.push _).objs.size
   rw [Jg]
   simp only [Qm,Qo,or_false] at hb
   rcases hb with hb | hb
   ·rw [hb]; exact Zj _
   ·rw [hb]; exact Jy hlt
 ·obtain ⟨its,rv,p,hz⟩:=I.tuple hx
  have hl:=rv.length
  rw [Qb] at hl
  have ht:s.heap.IsTuple a its.toArray:=p
  have hlt:a < s.heap.objs.size:=by obtain ⟨o,e,_⟩:=ht; exact Ql e
  have hne:a≠s.heap.objs.size:=Je hlt
  have W0:=Walks.tuple (prog:=X.prog) (w:=X.w) (A:=A) hh s.heap.objs.size a hne its.toArray
  rw [show its.toArray.size=ns.length by rw [Qj,hl]] at W0
  refine wpAny_pyIter_tuple ht (h s.heap.objs.size [s.heap.objs.size,a] _ _ { s with heap:=s.heap.push { cls:=.type "tuple_iterator",data:=.fields #[.ref a,.int 0 0] } } W0 (fun i v e=>?_) ⟨⟨_,Qi _ rfl,rfl,rfl⟩,ht.push _⟩ (fun b hb=>?_) (Qh _) (fun b o e=>Qa _ e) ⟨_,rfl⟩)
  ·have e':its[i]?=some v:=by simpa using e
   obtain ⟨hi,_⟩:=Qd.mp e'
   obtain ⟨w',ew,rw'⟩:=rv.get (i:=i) (x:=.int (ns[i]'(by omega))) (by rw [Qg,Qc (show i < ns.length by omega)]; rfl)
   rw [e'] at ew; cases ew
   obtain ⟨t,rfl⟩:=rw'
   exact ⟨_,t,Qc (show i < ns.length by omega),rfl⟩
  ·show b < (s.heap.push _).objs.size
   rw [Jg]
   simp only [Qm,Qo,or_false] at hb
   rcases hb with hb | hb
   ·rw [hb]; exact Zj _
   ·rw [hb]; exact Jy hlt
 ·obtain ⟨hz,hs,vs,kv,dd⟩:bW X.prog X.w H s.heap a (.dK kvs):=I.hok a _ hx
  obtain ⟨ep,da⟩:=dd.dictAt
  have hl:kvs.length=vs.length:=kv.length
  have hln:vs.length=ns.length:=by
   have:=congrArg Wj hk
   rw [Qb,Qb] at this
   omega
  have hlt:=da.lt_size
  have hne:a≠s.heap.objs.size:=Je hlt
  have W0:=Walks.dictKeys (prog:=X.prog) (w:=X.w) (A:=A) (knd:=bP X.prog X.w) hh s.heap.objs.size a hne vs ep
  rw [hln] at W0
  refine wpAny_pyIter_dict hs da (h s.heap.objs.size [s.heap.objs.size,a] _ _ { s with heap:=s.heap.push { cls:=.type "dict_keyiterator",data:=.fields #[.ref a,.int 0 0,.int vs.length 0,.int ep 0] } } W0 (fun i v e=>?_) ⟨⟨_,Qi _ rfl,rfl,by rw [hln]; rfl⟩,da.push _⟩ (fun b hb=>?_) (Qh _) (fun b o e=>Qa _ e) ⟨_,rfl⟩)
  ·obtain ⟨k,x,hi,hk2⟩:=e
   have e1:(vs.map (·.1))[i]?=some k:=by rw [Qg,hi]; rfl
   rw [<- kv.keys,hk,Qg] at e1
   cases q:ns[i]? with
   | none=>rw [q] at e1; cases e1
   | some n =>
    rw [q] at e1
    have:k=Sum.inl n:=(Option.some.inj e1).symm
    subst this
    obtain ⟨t,rfl⟩:bM (.int n) v:=wL hk2
    exact ⟨n,t,rfl,rfl⟩
  ·show b < (s.heap.push _).objs.size
   rw [Jg]
   simp only [Qm,Qo,or_false] at hb
   rcases hb with hb | hb
   ·rw [hb]; exact Zj _
   ·rw [hb]; exact Jy hlt
theorem aAk {u:V} {uv:Value} {n k:Int} (I:Inv X pins σ H s) (hk:aAj X.K H u n k) (r:bM u uv):∃ t,iQ s.heap uv n (.int k t):=by
 obtain ⟨h0,h1,a,xs,rfl,hx | hx,he⟩:=hk
 ·cases r
  obtain ⟨its,rv,p,hz⟩:=I.tuple hx
  obtain ⟨w',ew,t,rfl⟩:=rv.get he
  exact ⟨t,a,rfl,.inl ⟨its.toArray,p,h0,h1,by simpa using ew⟩⟩
 ·cases r
  obtain ⟨its,rv,p,hz⟩:=I.list hx
  obtain ⟨w',ew,t,rfl⟩:=rv.get he
  exact ⟨t,a,rfl,.inr ⟨its.toArray,p.isList,h0,h1,by simpa using ew⟩⟩
theorem iQ.obj {h:Heap} {u:Value} {i:Int} {v:Value} (x:iQ h u i v):∃ p o,u=.ref p/\h.get? p=some o/\∀ h':Heap,h'.get? p=some o->iQ h' u i v:=by
 obtain ⟨p,rfl,⟨its,⟨o,ho,r⟩,q⟩ | ⟨its,⟨o,ho,r⟩,q⟩⟩:=x
 ·exact ⟨p,o,rfl,ho,fun h' e=>⟨p,rfl,.inl ⟨its,⟨o,e,r⟩,q⟩⟩⟩
 ·exact ⟨p,o,rfl,ho,fun h' e=>⟨p,rfl,.inr ⟨its,⟨o,e,r⟩,q⟩⟩⟩
theorem tI {e:Expr} {te:TE} {p kpos lpos p1 p2 p3 pos:Pos} {params:Arguments} {scope:Scope} {vn xn:Str} {c P:Addr} {q:Str} (iv:Nat) (hc:X.calm=true) (hr:Room 1 X.A) (hg:Gl X "min") (hm:X.mg "min" = none) (Z:Lm X.K X.mg X.base c P) (hcode:X.env.code=.ref c) (hq:X.env.qual ++ "<lambda>" = q)
  (he:PE X e te) (hN:X.N[iv]?=some vn) (hkv:X.env.kindOf vn=some .cell)
  (hdef:defaultsOf params X.env=([],[]):=by rfl) (hcl:cY X.env scope.names []=(match X.env.cells.lookup vn with | some c=>[(vn,c)] | none=>[]):=by rfl)
  (hfr:∀ y∈scope.names,y.2=.free->y.1=vn:=by decide +kernel)
  (hbind:∀ (cl:List (Str×Addr)) (pm cdv ctv:Value) (i:Int) (t:Tok),bindArgs (PySem.W.kla_fn "<lambda>" q params (.Subscript (.Name vn p1) (.Name xn p2) p3) scope cl pm cdv ctv) ⟨[.int i t],[]⟩=pure [(xn,.int i t)]:=by intro _ _ _ _ _ _; rfl)
  (hx:scope.names.lookup xn=some .local:=by rfl) (hv:scope.names.lookup vn=some .free:=by rfl) (hco:scope.isCoroutine=false:=by rfl) (hgen:scope.isGenerator=false:=by rfl) (hk:scope.kind=.function:=by rfl) (hcell:∀ x∈scope.names,x.2≠.cell:=by decide +kernel)
  (d1:(vn==("__debug__" : Str))=false:=by decide) (d2:(vn==("__classdict__" : Str))=false:=by decide) (d3:(xn==("__debug__" : Str))=false:=by decide)
  (hs1:starEach [e] X.env = [(false,eval e X.env)]:=by rfl) :
  PE X (.Call (.Name "min" p) [e] [⟨some "key",.Lambda params (.Subscript (.Name vn p1) (.Name xn p2) p3) scope lpos,kpos⟩] pos) (aDA X.K P q iv te):=by
 intro pins s σ H Q I h
 refine wpAny_Call_Name_kw (hJ (u:=.builtin "min") I hg hm (by decide +kernel) ?_)
 have hpa:PA X [e] (vR te aBP):=aA he aB hs1
 refine callWith_kw (thn (hpa pos pins s σ H (fun vs H1=>match vs with
   | [x] => ∃ (ns : List Int) (kf : Int -> Int) (u : V), aAi X.K H1 x ns /\ 0 < ns.length /\ H1 P = some (.tab q) /\ σ[iv]? = some (some u) /\ (∀ n ∈ ns, aAj X.K H1 u n (kf n)) /\
       ∀ (j:Nat) (m:Int) (H2:Hp),aE H1 H2->ns[j]?=some m->(∀ n∈ns,kf m<=kf n)->(∀ (l:Nat) (n:Int),l < j->ns[l]?=some n->kf m < kf n)->Q (.int m) H2
   | _=>False) I h) fun us s1 ⟨vs,H1,I1,r1,q1⟩=>?_) (by rw [hs1]; rfl) (by rw [hs1]; rfl)
 match vs,r1,q1 with
 | [x],r1,q1 =>
  obtain ⟨ns,kf,u,hit,hpos,hT,hu,hkeys,k⟩:=q1
  obtain ⟨xv,rfl,rx⟩:=gB r1
  -- the cell of the name
  obtain ⟨m1,hns1,hl1⟩:=id I1.loc
  obtain ⟨uv,ru,lk⟩:=hl1 iv vn u hN hu (.inr (.inl hkv))
  obtain ⟨cc,hcc,hIc⟩:∃ cc,X.env.cells.lookup vn=some cc/\s1.heap.IsCell cc (some uv):=by
   rcases lk with ⟨z,_⟩ | ⟨_,z⟩
   ·rw [hkv] at z; cases z
   ·exact z
  have hclo:closureFor scope X.env=pure [(vn,cc)]:=by
   rw [yF fun y hy z=>⟨cc,by rw [hfr y hy z]; exact hcc⟩,hcl,hcc]
  refine kws_cons (aCi I1 Z hcode hT hq hdef hclo fun f c' ctv pm s2 H2 I2 sm kk hf hcr=>kws_nil ?_)
  show wpAny (model X.prog X.w) X.A (call (.builtin "min") [xv] [(Str.ofString "key",.ref f)]) _ _ _
  have hit2:aAi X.K H2 x ns:=by
   obtain ⟨a,rfl,z | z | ⟨kvs,z,y⟩⟩:=hit
   ·exact ⟨a,rfl,.inl (sm.seqL z)⟩
   ·exact ⟨a,rfl,.inr (.inl (sm.seqT z))⟩
   ·exact ⟨a,rfl,.inr (.inr ⟨kvs,sm _ _ z,y⟩)⟩
  have hkeys2:∀ n∈ns,aAj X.K H2 u n (kf n):=fun n hn=>by
   obtain ⟨h0,h1,a,xs,rfl,z | z,y⟩:=hkeys n hn
   ·exact ⟨h0,h1,a,xs,rfl,.inl (sm.seqT z),y⟩
   ·exact ⟨h0,h1,a,xs,rfl,.inr (sm.seqL z),y⟩
  -- what stays through the loop
  obtain ⟨fo,efo,hf⟩:∃ fo:Obj,fo={ cls:=.type "function",data:=.func (PySem.W.kla_fn "<lambda>" q params (.Subscript (.Name vn p1) (.Name xn p2) p3) scope [(vn,cc)] pm (.ref c') ctv) }/\s2.heap.get? f=some fo:=⟨_,rfl,hf⟩
  obtain ⟨c2,oc,cvs,tq,ec,hoc,hdc,hcv⟩:=hcr
  cases ec
  obtain ⟨ocl,hocl,hdcl⟩:s2.heap.IsCell cc (some uv):=by
   obtain ⟨o,ho,hd⟩:=hIc
   have nP:cc≠P:=fun z=>by rw [z] at hcc; have:=I1.freeC _ _ hcc; rw [hT] at this; cases this
   exact ⟨o,kk _ _ nP ho,hd⟩
  obtain ⟨mc,⟨oL,esL,epL,hoL,hdL,rL⟩,hlim⟩:=I2.nolimit
  have n0:ns[0]?=some (ns[0]):=Qc hpos
  obtain ⟨t0,it0⟩:=aAk I2 (hkeys2 _ (Qe n0)) ru
  obtain ⟨pu,ou,eu,hou,_⟩:=it0.obj
  refine uT (f:=f) (yN (A:=X.A.in1) (I2.ok.hd hc) I2 hit2 rx fun It fp Pv St s3 W hPv hst hfp hIt hk3 hx9=>?_)
  obtain ⟨h3,e3⟩:=hx9
  subst e3
  refine ⟨It,fp,[It],ns.length,Pv,St,fun i=>kf (ns.getD i 0),[(f,fo),(c',oc),(cc,ocl),(cStatics,oL),(pu,ou)],rfl,W,hst,hfp,hpos,?_,?_,?_,fun v h' tk hP kk'=>?_⟩
  ·intro i v s4 Q4 E4 hi hPi hL hQ4
   obtain ⟨n,t,hn,rfl⟩:=hPv i v hPi
   have eg:ns.getD i 0=n:=by rw [Qn,hn]; rfl
   obtain ⟨tk,itk⟩:=aAk I2 (hkeys2 _ (Qe hn)) ru
   have it4:iQ s4.heap uv n (.int (kf n) tk):=by
    obtain ⟨p',o',e',ho',hh⟩:=itk.obj
    rw [eu] at e'; cases e'
    rw [hou] at ho'; cases ho'
    exact hh _ (hL (pu,ou) (by simp))
   have rm:X.A.in1.depth < recursionLimit:=(Room.in1 hr).depth
   refine aCg (cl:=[(vn,cc)]) (c:=cc) rm ⟨mc,⟨oL,esL,epL,hL (cStatics,oL) (by simp),hdL,rL⟩,hlim⟩ (by rw [<- efo]; exact hL (f,fo) (by simp)) ⟨c',oc,cvs,tq,rfl,hL (c',oc) (by simp),hdc,hcv⟩ (hbind _ _ _ _ _ _) hx hv hco hgen hk hcell (by simp [List.lookup]) ⟨ocl,hL (cc,ocl) (by simp),hdcl⟩ it4 (fun h5 tk5 k5=>?_) d1 d2 d3
   have:=hQ4 h5 tk5 tk k5
   dsimp only at this
   rw [eg] at this
   exact this
  ·intro pr hpr hz
   have hlt:∀ b o,s2.heap.get? b=some o->b≠It:=fun b o e=>Je (Qp (Ql e) hIt)
   simp only [Qu] at hz
   simp only [Qm,Qo,or_false] at hpr
   rcases hpr with rfl | rfl | rfl | rfl | rfl
   ·exact hlt _ _ hf hz
   ·exact hlt _ _ hoc hz
   ·exact hlt _ _ hocl hz
   ·exact hlt _ _ hoL hz
   ·exact hlt _ _ hou hz
  ·intro pr hpr
   simp only [Qm,Qo,or_false] at hpr
   rcases hpr with rfl | rfl | rfl | rfl | rfl
   ·exact hk3 _ _ hf
   ·exact hk3 _ _ hoc
   ·exact hk3 _ _ hocl
   ·exact hk3 _ _ hoL
   ·exact hk3 _ _ hou
  ·obtain ⟨n,t,hn,rfl⟩:=hPv _ v hP
   have I3:Inv X pins σ H2 { s2 with heap:=h',toks:=tk }:=I2.kept fun b o e=>kk' b o (by simp; exact Je (Qp (Ql e) hIt)) (hk3 b o e)
   have b1:=argBest_lt (fun i=>kf (ns.getD i 0)) (ns.length - 1)
   have b2:=lN (fun i=>kf (ns.getD i 0)) (ns.length - 1)
   have hat:∀ i y,ns[i]?=some y->ns.getD i 0=y:=fun i y e=>by rw [Qn,e]; rfl
   refine ⟨.int n,H2,I3,⟨t,rfl⟩,k _ n H2 sm hn (fun y hy=>?_) (fun l y hl hy=>?_)⟩
   ·obtain ⟨i,hi⟩:=Qy.mp hy
    have:=b1.2 i (by have:=(Qd.mp hi).1; omega)
    have e1:=hat _ _ hn
    have e2:=hat _ _ hi
    show kf n<=kf y
    rw [<- e1,<- e2]; exact this
   ·have:=b2 l hl
    have e1:=hat _ _ hn
    have e2:=hat _ _ hy
    rw [<- e1,<- e2]; exact this
end
def aCj (ts:List (Addr×Str)) (H:Hp):Prop:=(∀ b,H b=none∨(∃ o xs,H b=some (.frz o (.lst xs)))∨∃ q,H b=some (.tab q)/\(b,q)∈ts)/\∀ p∈ts,H p.1=some (.tab p.2)
theorem qA {h:Heap} {c P:Addr} (C:PySem.W.CodeHd h c P) (e:h.get? P=some (PySem.W.tabObj #[])):isCodeTable h P:=(C.tab e).isCodeTable
theorem aBd {P:Program} {w:World} {K:PySem.W.Frag} {mg mb:Str->Option Value} {CX:CXT} {k:Nat} {fa a:Addr} {fd:FuncData} {x:Str} {sp:Sp} {s₁:Shared} {vs:List Value} {ns:List Int} {ts:List (Addr×Str)}
  (KX:K.In s₁.heap) (hns:s₁.heap.Ns mainGlobals mg) (hb:s₁.heap.Ns builtinsNs mb) (hbb:∀ x:Str,x ≠ "__name__" -> mb x=bootBuiltins x) (hlim:s₁.heap.NoLimit) (hmod:∃ mm,s₁.heap.Ns sysModules mm) (hg:s₁.gens = #[])
  (hbm:∃ bm ob,mg "__builtins__" = some (.ref bm)/\bm≠builtinsNs/\s₁.heap.get? bm=some ob/\ob.cls=.type "module" /\ ob.dict=some builtinsNs/\ob.data=.plain)
  (hts:∀ p∈ts,s₁.heap.get? p.1=some (PySem.W.tabObj #[])/\K.lookup p.1=none/\∃ c,PySem.W.CodeHd s₁.heap c p.1) (hnd:(ts.map (·.1)).Nodup)
  (ha:s₁.heap.get? a=some { cls:=.type "list",data:=.seq vs.toArray }) (hi:IntsAre vs ns) (hl:ns.length<=sizeLine) (hr:Room k callerA)
  (F:∀ base:Heap,K.In base->base.Ns mainGlobals mg->(∀ p∈ts,base.BuiltinsAt mg p.1)->FnOk P w K mg base CX k fa fd [x] sp) (hbind:∀ (s:Shared) (u:Value),BindsTo s fd ⟨[u],[]⟩ [(x,u)])
  (hsp:∀ H:Hp,aCj ts H->SqL K H a (ns.map V.int)->sp [.ref a] H (fun v H'=>v=.bl true/\∀ p∈ts,H' p.1=some (.tab p.2)) fun _ _ _=>False)
  (hCX:∀ H e s',CX [] H s₁ (fun _ _ _=>False) e s'->False) :
  codeAny (model P w) callerA (.call (.ref fa) ⟨[.ref a],[]⟩) (fun r s'=>r=.ok (.ret (.bool true))/\OldK s₁.heap s'.heap/\s'.os=s₁.os/\AllBare s'.gens) s₁:=by
 have rv:=kX hi
 have lenV:=hi.length
 have na:∀ p∈ts,p.1≠a:=fun p hp z=>by
  have:=(hts p hp).1
  rw [z,ha] at this; cases this
 -- from an abstract heap in which nothing but the script and the tables may be tracked
 have core:∀ H:Hp,aCj ts H->SqL K H a (ns.map V.int)->HOk P w H s₁.heap->(∀ b,H b≠none->b=a∨∃ q,(b,q)∈ts)->(H a≠none->K.lookup a=none) ->
   codeAny (model P w) callerA (.call (.ref fa) ⟨[.ref a],[]⟩) (fun r s'=>r=.ok (.ret (.bool true))/\OldK s₁.heap s'.heap/\s'.os=s₁.os/\AllBare s'.gens) s₁:=by
  intro H hO hS hok hA hK
  have base_of:∀ {b:Addr} {o:Obj},s₁.heap.get? b=some o->H b=none->(rZ s₁.heap H).get? b=some o:=fun e n=>aBF e n
  have noA:∀ {b:Addr} {o:Obj} {es:Array DictEntry} {ep:Nat},s₁.heap.get? b=some o->o.data=.dict es ep->H b=none:=fun {b o es ep} e d=>by
   cases q:H b with
   | none=>rfl
   | some u =>
    rcases hA b (by rw [q]; simp) with e' | ⟨q',e'⟩
    ·subst e'
     rw [ha] at e; cases e
     have d':Data.seq vs.toArray _=Data.dict es ep:=d
     cases d'
    ·have:=(hts _ e').1
     have e2:s₁.heap.get? b=some (PySem.W.tabObj #[]):=this
     rw [e] at e2; cases e2
     have d':Data.fields _=Data.dict es ep:=d
     cases d'
  have nsK:∀ {b:Addr} {m:Str->Option Value},s₁.heap.Ns b m->(rZ s₁.heap H).Ns b m:=fun {b m} ⟨o,es,ep,e,d,r⟩=>⟨o,es,ep,base_of e (noA e d),d,r⟩
  have hKb:K.In (rZ s₁.heap H):=fun b o e=>base_of (KX b o e) (by
   cases q:H b with
   | none=>rfl
   | some u =>
    rcases hA b (by rw [q]; simp) with e' | ⟨q',e'⟩
    ·subst e'
     rw [hK (by rw [q]; simp)] at e; cases e
    ·have:=(hts _ e').2.1
     have e2:K.lookup b=none:=this
     rw [e] at e2; cases e2)
  have hBu:∀ p∈ts,(rZ s₁.heap H).BuiltinsAt mg p.1:=fun p hp=>by
   obtain ⟨bm,ob,b1,b2,b3,b4,b5,b6⟩:=hbm
   have hn:H bm=none:=by
    cases q:H bm with
    | none=>rfl
    | some u =>
     rcases hA bm (by rw [q]; simp) with e' | ⟨q',e'⟩
     ·subst e'
      rw [ha] at b3; cases b3
      have d':Data.seq vs.toArray _=Data.plain:=b6
      cases d'
     ·have e2:s₁.heap.get? bm=some (PySem.W.tabObj #[]):=(hts _ e').1
      rw [b3] at e2; cases e2
      have d':Data.fields _=Data.plain:=b6
      cases d'
   refine ⟨bm,ob,b1,b2,fun z=>?_,fun z=>?_,base_of b3 hn,b4,b5,b6⟩
   ·obtain ⟨o,es,ep,e,d,r⟩:=hns
    rw [<- z,b3] at e; cases e
    rw [b6] at d; cases d
   ·have e2:s₁.heap.get? p.1=some (PySem.W.tabObj #[]):=(hts _ hp).1
    rw [<- z,b3] at e2; cases e2
    have d':Data.fields _=Data.plain:=b6
    cases d'
  have hM:Mod K mg (rZ s₁.heap H):=⟨hKb,nsK hns,⟨mb,nsK hb,hbb⟩,let ⟨mc,h1,h2⟩:=hlim; ⟨mc,nsK h1,h2⟩,let ⟨mm,h1⟩:=hmod; ⟨mm,nsK h1⟩⟩
  have e0:Env0 P w K mg (rZ s₁.heap H) callerA [] s₁ H:=⟨rfl,hM,fun b o e=>aDa e,Wx (aAO _ _),trivial,fun b hb=>absurd (show b∈([]:List Addr) from hb) (by simp),hok,.of_eq hg⟩
  refine codeAny_mono ((F _ hKb (nsK hns) hBu).run callerA [] s₁ H ⟨[.ref a],[]⟩ [.ref a] [.ref a] _ _ hr e0 (hbind s₁ (.ref a)) (.cons rfl .nil) (hsp H hO hS)) fun r s' h=>?_
  cases r with
  | error e=>exact (hCX H e s' h).elim
  | ok fl =>
   cases fl with
   | next=>exact False.elim h
   | brk=>exact False.elim h
   | cont=>exact False.elim h
   | ret u =>
    obtain ⟨v,H',os,bare,un,hok',r',q,qt⟩:=h
    have q':v=.bl true:=q
    subst q'
    obtain rfl:u=Value.bool true:=r'
    have keep:∀ b o,(∀ q,(b,q)∉ts)->s₁.heap.get? b=some o->s'.heap.get? b=some o:=fun b o hb e=>by
     cases q:H b with
     | none=>exact un.keep b o e q (by intro z; exact absurd (show b∈([]:List Addr) from z) (by simp)) (by simp)
     | some u =>
      rcases hO.1 b with z | ⟨ob,xs,z⟩ | ⟨q',z,zm⟩
      ·rw [q] at z; cases z
      ·have z2:=un.frzs b ob _ z
       obtain ⟨e1,_⟩:=hok b _ z
       obtain ⟨e2,_⟩:=hok' b _ z2
       rw [e] at e1; cases e1
       exact e2
      ·exact absurd zm (hb q')
    have grown:∀ b o q,(b,q)∈ts->s₁.heap.get? b=some o->isCodeTable s₁.heap b/\o=PySem.W.tabObj #[]/\∃ ps,s'.heap.get? b=some (PySem.W.tabObj ps):=fun b o q hm e=>by
     obtain ⟨h1,h2,c,h3⟩:=hts _ hm
     have h1':s₁.heap.get? b=some (PySem.W.tabObj #[]):=h1
     rw [e] at h1'
     obtain ⟨ps,hps,_⟩:bW P w H' s'.heap b (.tab q):=hok' b _ (qt _ hm)
     exact ⟨qA h3 h1,Option.some.inj h1',ps,hps⟩
    refine ⟨rfl,⟨fun b o e=>?_,fun b o e=>?_⟩,os,bare⟩
    ·by_cases hb:∃ q,(b,q)∈ts
     ·obtain ⟨q,hm⟩:=hb
      obtain ⟨ht,rfl,ps,hP⟩:=grown b o q hm e
      exact .inr (.inl ⟨ht,rfl,#[],ps,rfl,by rw [Array.empty_append]; exact hP⟩)
     ·exact .inl (keep b o (fun q z=>hb ⟨q,z⟩) e)
    ·by_cases hb:∃ q,(b,q)∈ts
     ·obtain ⟨q,hm⟩:=hb
      obtain ⟨_,_,ps,hP⟩:=grown b o q hm e
      exact ⟨_,hP⟩
     ·exact ⟨o,keep b o (fun q z=>hb ⟨q,z⟩) e⟩
 -- the tables
 have look:∀ {b:Addr} {q:Str},ts.lookup b=some q->(b,q)∈ts:=fun {b q} e=>by
  clear hts hnd hsp core na F
  induction ts with
  | nil=>cases e
  | cons p r ih =>
   rw [Xa] at e
   cases hb:b==p.1 with
   | true=>rw [hb] at e; cases e; rw [eq_of_beq hb]; exact .head _
   | false=>rw [hb] at e; exact .tail _ (ih e)
 have look2:∀ {b:Addr} {q:Str},(b,q)∈ts->ts.lookup b=some q:=fun {b q} e=>by
  clear hts hsp core na look F
  induction ts with
  | nil=>cases e
  | cons p r ih =>
   rw [Xa]
   rw [Jj,Xq] at hnd
   rcases Qm.mp e with rfl | e
   ·simp
   ·have:(b==p.1)=false:=by
     rw [beq_eq_false_iff_ne]
     intro z
     exact hnd.1 (Jm.mpr ⟨(b,q),e,z⟩)
    rw [this]
    exact ih hnd.2 e
 have tabOk:∀ (H:Hp) (b:Addr) (q:Str),(b,q)∈ts->bW P w H s₁.heap b (.tab q):=fun H b q hm=>⟨#[],(hts _ hm).1,trivial,fun pos cv z=>by simp [codeAmong] at z⟩
 cases hk:K.lookup a with
 | some o =>
  have e:=KX a o hk
  rw [ha] at e
  cases e
  refine core (fun b=>(ts.lookup b).map HO.tab) ⟨fun b=>?_,fun p hp=>by show (ts.lookup p.1).map HO.tab=_; rw [look2 (q:=p.2) hp]; rfl⟩ (.inr ⟨_,vs.toArray,_,hk,rfl,rfl,rfl,by rw [Qj,lenV]; exact hl,by simpa using rv⟩) (fun b u z=>?_) (fun b z=>?_) fun z=>?_
  ·cases q:ts.lookup b with
   | none=>exact .inl (by show (ts.lookup b).map HO.tab=none; rw [q]; rfl)
   | some y=>exact .inr (.inr ⟨y,by show (ts.lookup b).map HO.tab=_; rw [q]; rfl,look q⟩)
  ·have z':(ts.lookup b).map HO.tab=some u:=z
   cases q:ts.lookup b with
   | none=>rw [q] at z'; cases z'
   | some y=>rw [q] at z'; cases z'; exact tabOk _ _ _ (look q)
  ·have z':(ts.lookup b).map HO.tab≠none:=z
   cases q:ts.lookup b with
   | none=>rw [q] at z'; exact absurd rfl z'
   | some y=>exact .inr ⟨y,look q⟩
  ·exfalso
   have z':(ts.lookup a).map HO.tab≠none:=z
   cases q:ts.lookup a with
   | none=>rw [q] at z'; exact absurd rfl z'
   | some y=>exact na _ (look q) rfl
 | none =>
  have noa:ts.lookup a=none:=by
   cases q:ts.lookup a with
   | none=>rfl
   | some y=>exact absurd rfl (na _ (look q))
  refine core (fun b=>if b=a then some (.frz { cls:=.type "list",data:=.seq vs.toArray } (.lst (ns.map V.int))) else (ts.lookup b).map HO.tab) ⟨fun b=>?_,fun p hp=>?_⟩ (.inl (.inr ⟨{ cls:=.type "list",data:=.seq vs.toArray },if_pos rfl⟩)) (fun b u z=>?_) (fun b z=>?_) fun _=>hk
  ·by_cases hb:b=a
   ·exact .inr (.inl ⟨_,_,if_pos hb⟩)
   ·cases q:ts.lookup b with
    | none=>exact .inl ((if_neg hb).trans (by rw [q]; rfl))
    | some y=>exact .inr (.inr ⟨y,(if_neg hb).trans (by rw [q]; rfl),look q⟩)
  ·exact (if_neg (na p hp)).trans (by rw [look2 (q:=p.2) hp]; rfl)
  ·by_cases hb:b=a
   ·have z':=(if_pos hb).symm.trans z
    cases z'
    subst hb
    exact ⟨ha,by rw [Qb]; exact hl,vs,_,rv,ha⟩
   ·have z':=(if_neg hb).symm.trans z
    cases q:ts.lookup b with
    | none=>rw [q] at z'; cases z'
    | some y=>rw [q] at z'; cases z'; exact tabOk _ _ _ (look q)
  ·by_cases hb:b=a
   ·exact .inl hb
   ·cases q:ts.lookup b with
    | none=>exact absurd ((if_neg hb).trans (by rw [q]; rfl)) z
    | some y=>exact .inr ⟨y,look q⟩
theorem aCk {l:PySem.W.OpenLaw} {n k:Nat} {q:Program} {loose:List Str} {XP:(Str->Option Value)->Heap->Prop} {YP:World->Heap->Prop} {d:DefRec} {K:Params->PySem.W.Frag} {CX:World->CXT} {sp:World->Sp} {x:Str} {ts:List (Addr×Str)}
  (hn:l.most=some n) (hn2:n<=sizeLine) (hdf:d.params.defaults = []) (hr:Room k callerA) (hq:importsNone q=true)
  (hY:∀ (w:World) (h:Heap),YP w h->(K w.params).In h)
  (hts:∀ (w:World) (h:Heap),YP w h->∀ p∈ts,h.get? p.1=some (PySem.W.tabObj #[])/\(K w.params).lookup p.1=none/\∃ c,PySem.W.CodeHd h c p.1) (hnd:(ts.map (·.1)).Nodup)
  (F:∀ (w:World) (mg:Str->Option Value) (fa:Addr) (h:Heap),(K w.params).In h->h.Ns mainGlobals mg->mg d.name=some (.ref fa) ->
   ∃ fd:FuncData,(∀ (s:Shared) (u:Value),BindsTo s fd ⟨[u],[]⟩ [(x,u)]) /\
    ∀ base:Heap,(K w.params).In base->base.Ns mainGlobals mg->(∀ p∈ts,base.BuiltinsAt mg p.1)->FnOk l.prog w (K w.params) mg base (CX w) k fa fd [x] (sp w))
  (hsp:∀ (w:World) (H:Hp) (a:Addr) (ns:List Int),ns.length<=n->aCj ts H->SqL (K w.params) H a (ns.map V.int)->sp w [.ref a] H (fun v H'=>v=.bl true/\∀ p∈ts,H' p.1=some (.tab p.2)) fun _ _ _=>False)
  (hCX:∀ (w:World) (H:Hp) (s:Shared) (e:Value) (s':Shared),CX w [] H s (fun _ _ _=>False) e s'->False) :
  PySem.W.WalkO q loose XP YP l.row.toRowW d [] (fun f vs=>PySem.call f vs):=by
 refine Att.attach_call hn hdf fun w s₀ s₁ mg mb fa o pm cd doc a vs ns G Y ho hd hcd hmg hobj hints hlen hg=>?_
 have KX:=hY w _ Y
 obtain ⟨fd,hb,hF⟩:=F w mg fa _ KX G.T.g hmg
 exact aBd KX G.T.g G.T.b G.T.builtins G.T.nolimit (let ⟨mm,h1,_⟩:=(G.T.seer hq).mods; ⟨mm,h1⟩) hg G.T.bmain (hts w _ Y) hnd hobj hints (Qz hlen hn2) hr hF hb (fun H hO hS=>hsp w H a ns hlen hO hS) fun H e s'=>hCX w H s₁ e s'
section
variable {P:Program} {w:World} {K:PySem.W.Frag} {mg:Str->Option Value} {base:Heap}
theorem Fun.okC {x qual:Str} {st:Stmt} {f c:Addr} {fd:FuncData} {N ps:List Str} {k:Nat} {sp:Sp} (F:Fun K x qual st f fd) (hc:fd.code=.ref c) (S:FnScope N ps (aF st)) (len:∀ vs H Q E,sp vs H Q E->vs.length=ps.length)
  (hbody:∀ (A:Around) (outer:List Env) (s:Shared) (H:Hp) (vs:List V) (Q:VK) (E:XK),Room k (A.deeper (envOfC qual (aF st) s.heap.objs.size f (.ref c)))->sp vs H Q E ->
   ∃ t,PSs (yB CX0 P w K mg base N qual (aF st) f (.ref c) A outer s H E).nox (gT st) t/\t { nx:=fun _ H'=>Q .non H',rt:=Q } (start N vs) H):FnOk P w K mg base CX0 (k+1) f fd ps sp:=by
 obtain ⟨oc,od,kV,doc,pm,an,cdv,ct,osl,rfl,lk,hcd⟩:=F.ex
 have e:cdv=.ref c:=hc
 subst e
 refine aD7 lk hcd S len fun A outer s H vs Q E hr hsp=>?_
 obtain ⟨t,h,q⟩:=hbody A outer s H vs Q E hr hsp
 exact ⟨t,h.nox,q⟩
end
abbrev gC (h:Heap) (z TI TO:Addr) (f0:Value) (f1:Bool):Prop :=
 h.get? z=some { cls:=.type "zip",dict:=none,data:=.fields #[f0,.bool f1,.bool false,.ref TI,.ref TO],slots:=#[] }
def F0 (f:Value):Prop:=f=.none∨∃ a t,f=.int a t
theorem wM {M:Model} {A:Around} {E:Value->Shared->Prop} {s:Shared} {a:Addr} {Q:Option Obj->Shared->Prop} (h:Q (s.heap.get? a) s):wpAny M A (loadIfAlive a) Q E s:=fun Γ p _=>by
 show Sem.wp M Γ (.loadIfAlive a .pure) _ _ p s
 rw [Sem.wp_loadIfAlive]
 exact (Sem.wp_pure ..).mpr h
section
variable {prog:Program} {w:World} {A:Around} {E:Value->Shared->Prop} {s:Shared} {z TI TO i1 i2 l1 l2:Addr} {n1 n2:Nat} {P1 P2:Nat->Value->Prop} {st1 st2:Nat->Heap->Prop}
theorem aCl {f0:Value} {f1:Bool} {Q:Bool->Shared->Prop} (hz:gC s.heap z TI TO f0 f1) (hf:F0 f0) (h1:Q true s) (h2:∀ h' b,gC h' z TI TO f0 b->Heap.SameBut z s.heap h'->Q false { s with heap:=h' }) :
  wpAny (model prog w) A (Builtin.SmallTypes.ownedTupleIsFree (.ref z)) Q E s:=by
 unfold Builtin.SmallTypes.ownedTupleIsFree
 rcases hf with rfl | ⟨a,t,rfl⟩
 ·exact wpAny_bind (wpAny_field hz rfl (x:=.none) rfl (wpAny_pure h1))
 ·refine wpAny_bind (wpAny_field hz rfl (x:=.int a t) rfl ?_)
  show wpAny (model prog w) A (loadIfAlive a.toNat >>= _) Q E s
  refine wpAny_bind (wM ?_)
  cases hq:s.heap.get? a.toNat with
  | none=>exact wpAny_pure h1
  | some o =>
   show wpAny (model prog w) A (field (.ref z) 1 >>= _) Q E s
   refine wpAny_bind (wpAny_field hz rfl (x:=.bool f1) rfl ?_)
   cases f1 with
   | true=>exact wpAny_pure (h2 s.heap true hz (Heap.SameBut.refl _ _))
   | false =>
    show wpAny (model prog w) A (setField (.ref z) 1 (.bool true) >>= _) Q E s
    refine wpAny_bind (wpAny_setField_rec hz (by simp) fun g hg b=>wpAny_pure (h2 g true hg b))
theorem aCm {k:Nat} {a b f0:Value} {f1:Bool} {Q:Value->Shared->Prop} (D:ZipApart z TI TO i1 i2 l1 l2) (S1:Sub prog w i1 l1 n1 P1 st1) (S2:Sub prog w i2 l2 n2 P2 st2)
  (hz:gC s.heap z TI TO f0 f1) (hf:F0 f0) (hTI:IsPair s.heap TI (.ref i1) (.ref i2)) (hTO:IsPair s.heap TO a b) (h1:st1 k s.heap) (h2:st2 k s.heap) (k1:k < n1) (k2:k < n2)
  (hQ:∀ h' x y f0' f1',P1 k x->P2 k y->F0 f0'->gC h' z TI TO f0' f1'->(∃ a b,IsPair h' TO a b)->st1 (k+1) h'->st2 (k+1) h'->IsPair h' s.heap.objs.size x y->h'.objs.size=s.heap.objs.size+1 ->
   (∀ c o,c≠z->c≠TO->c≠i1->c≠i2->s.heap.get? c=some o->h'.get? c=some o)->Q (.ref s.heap.objs.size) { s with heap:=h' }) :
  wpAny (model prog w) A (Builtin.«zip.__next__» ⟨[.ref z],[]⟩) (fun fin s'=>∃ v,fin=.done (.ret v)/\Q v s') E s:=by
 refine wpAny_bind (m:=field (.ref z) 2) (wpAny_field hz rfl (x:=.bool false) rfl ?_)
 refine wpAny_bind (m:=field (.ref z) 3) (wpAny_field hz rfl (x:=.ref TI) rfl ?_)
 refine wpAny_bind (wpAny_seqItems hTI rfl ?_)
 refine wpAny_bind (m:=Builtin.SmallTypes.ownedTupleIsFree (.ref z)) (aCl hz hf ?_ fun h0 fb hz0 b0=>?_)
 ·simp only [if_true]
  refine wpAny_bind (wpAny_rule ?_)
  refine wpAny_bind (wpAny_field hz rfl (x:=.ref TO) rfl ?_)
  refine wpAny_bind (wpAny_setField_rec hz (by simp) fun g1 hz1 b1=>?_)
  have hz1':gC g1 z TI TO .ellipsis f1:=hz1
  refine wpAny_bind ?_
  simp only [Xy,Zc,Xl,Xt]
  have s1:st1 k g1:=S1.keep _ _ _ h1 fun c hc o e=>b1.extBut c o (by rcases hc with r | r <;> rw [r]; exact D.i1z; exact D.l1z) e
  refine wpAny_bind (wpAny_bind (wpAny_onRaise ?_))
  refine wpAny_bind (m:=Builtin.SmallTypes.nextOf (.ref i1)) (S1.item _ k _ _ _ k1 s1 fun x g2 px t1 b2=>wpAny_pure ?_)
  have o2:IsPair g2 TO a b:=b2.extBut _ _ D.TOi1 (b1.extBut _ _ D.TOz hTO)
  refine wpAny_bind (wpAny_seqItems o2 rfl ?_)
  refine wpAny_bind (wpAny_updateSeq_pair o2 fun g3 o3 b3=>?_)
  have o3':IsPair g3 TO x b:=o3
  refine wpAny_bind (wpAny_letGo (wpAny_pure ?_))
  have s2:st2 k g3:=S2.keep _ _ _ h2 fun c hc o e=>by
   rcases hc with r | r
   ·rw [r] at e ⊢; exact b3.extBut _ _ D.TOi2.symm (b2.extBut _ _ D.i12.symm (b1.extBut _ _ D.i2z e))
   ·rw [r] at e ⊢; exact b3.extBut _ _ D.l2TO (b2.extBut _ _ D.l2i1 (b1.extBut _ _ D.l2z e))
  refine wpAny_bind (wpAny_bind (wpAny_onRaise ?_))
  refine wpAny_bind (m:=Builtin.SmallTypes.nextOf (.ref i2)) (S2.item _ k _ _ _ k2 s2 fun y g4 py t2 b4=>wpAny_pure ?_)
  have o4:IsPair g4 TO x b:=b4.extBut _ _ D.TOi2 o3'
  refine wpAny_bind (wpAny_seqItems o4 rfl ?_)
  refine wpAny_bind (wpAny_updateSeq_pair o4 fun g5 o5 b5=>?_)
  have o5':IsPair g5 TO x y:=o5
  refine wpAny_bind (wpAny_letGo (wpAny_pure (wpAny_pure ?_)))
  refine wpAny_bind (wpAny_seqItems o5' rfl ?_)
  refine wpAny_bind (wpAny_newTuple ?_)
  have sz:g5.objs.size=s.heap.objs.size:=by rw [b5.1,b4.1,b3.1,b2.1,b1.1]
  have z5:gC g5 z TI TO .ellipsis f1:=b5.extBut _ _ D.TOz.symm (b4.extBut _ _ D.i2z.symm (b3.extBut _ _ D.TOz.symm (b2.extBut _ _ D.i1z.symm hz1')))
  have kp5:∀ c o,c≠z->c≠TO->c≠i1->c≠i2->s.heap.get? c=some o->g5.get? c=some o:=fun c o c1 c2 c3 c4 e =>
   b5.extBut _ _ c2 (b4.extBut _ _ c4 (b3.extBut _ _ c2 (b2.extBut _ _ c3 (b1.extBut _ _ c1 e))))
  have t1':st1 (k+1) g5:=S1.keep _ _ _ t1 fun c hc o e=>by
   rcases hc with r | r
   ·rw [r] at e ⊢; exact b5.extBut _ _ D.TOi1.symm (b4.extBut _ _ D.i12 (b3.extBut _ _ D.TOi1.symm e))
   ·rw [r] at e ⊢; exact b5.extBut _ _ D.l1TO (b4.extBut _ _ D.l1i2 (b3.extBut _ _ D.l1TO e))
  have t2':st2 (k+1) g5:=S2.keep _ _ _ t2 fun c hc o e=>by
   rcases hc with r | r
   ·rw [r] at e ⊢; exact b5.extBut _ _ D.TOi2.symm e
   ·rw [r] at e ⊢; exact b5.extBut _ _ D.l2TO e
  have zlt:g5.objs.size≠z:=Xj (Ql z5)
  refine wpAny_bind (m:=Builtin.SmallTypes.ownedTupleHandOut (.ref z) (.ref g5.objs.size)) ?_
  unfold Builtin.SmallTypes.ownedTupleHandOut
  have z6:gC (g5.push { cls:=.type "tuple",data:=.seq #[x,y] }) z TI TO .ellipsis f1:=Qa _ z5
  refine wpAny_bind (wpAny_setField_rec z6 (by simp) fun g7 z7 b7=>?_)
  have z7':gC g7 z TI TO (rawInt g5.objs.size) f1:=z7
  refine wpAny_setField_rec z7' (by simp) fun g8 z8 b8=>?_
  have z8':gC g8 z TI TO (rawInt g5.objs.size) false:=z8
  have up:∀ c o,c≠z->g5.get? c=some o->g8.get? c=some o:=fun c o c1 e=>b8.extBut _ _ c1 (b7.extBut _ _ c1 (Qa _ e))
  have T8:IsPair g8 g5.objs.size x y:=b8.extBut _ _ zlt (b7.extBut _ _ zlt (Qi _ rfl))
  have sz8:g8.objs.size=s.heap.objs.size+1:=by rw [b8.1,b7.1,Jg,sz]
  rw [sz] at z8' T8
  refine wpAny_pure ⟨_,rfl,?_⟩
  show Q (.ref g5.objs.size) _
  rw [sz]
  refine hQ g8 x y _ _ px py (.inr ⟨_,_,rfl⟩) z8' ⟨_,_,up _ _ D.TOz o5'⟩ (S1.keep _ _ _ t1' fun c hc o e=>up c o (by rcases hc with r | r <;> rw [r]; exact D.i1z; exact D.l1z) e) (S2.keep _ _ _ t2' fun c hc o e=>up c o (by rcases hc with r | r <;> rw [r]; exact D.i2z; exact D.l2z) e) T8 sz8 fun c o c1 c2 c3 c4 e=>up c o c1 (kp5 c o c1 c2 c3 c4 e)
 ·simp only [Xz,if_false]
  have s1:st1 k h0:=S1.keep _ _ _ h1 fun c hc o e=>b0.extBut c o (by rcases hc with r | r <;> rw [r]; exact D.i1z; exact D.l1z) e
  rw [<- Array.forIn_toList]
  simp only [Xl,Xt]
  refine wpAny_bind (wpAny_bind (wpAny_bind (wpAny_holding ?_)))
  refine wpAny_bind (m:=Builtin.SmallTypes.nextOf (.ref i1)) (S1.item _ k _ _ _ k1 s1 fun x g2 px t1 b2=>wpAny_pure ?_)
  refine wpAny_pure ?_
  have s2:st2 k g2:=S2.keep _ _ _ h2 fun c hc o e=>by
   rcases hc with r | r
   ·rw [r] at e ⊢; exact b2.extBut _ _ D.i12.symm (b0.extBut _ _ D.i2z e)
   ·rw [r] at e ⊢; exact b2.extBut _ _ D.l2i1 (b0.extBut _ _ D.l2z e)
  refine wpAny_bind (wpAny_bind (wpAny_holding ?_))
  refine wpAny_bind (m:=Builtin.SmallTypes.nextOf (.ref i2)) (S2.item _ k _ _ _ k2 s2 fun y g4 py t2 b4=>wpAny_pure ?_)
  refine wpAny_pure (wpAny_pure ?_)
  refine wpAny_bind (wpAny_newTuple ?_ (by show 2<=sizeLine; rw [sizeLine_eq]; decide))
  have sz:g4.objs.size=s.heap.objs.size:=by rw [b4.1,b2.1,b0.1]
  have z4:gC g4 z TI TO f0 fb:=b4.extBut _ _ D.i2z.symm (b2.extBut _ _ D.i1z.symm hz0)
  have kp4:∀ c o,c≠z->c≠i1->c≠i2->s.heap.get? c=some o->g4.get? c=some o:=fun c o c1 c3 c4 e=>b4.extBut _ _ c4 (b2.extBut _ _ c3 (b0.extBut _ _ c1 e))
  have t1':st1 (k+1) g4:=S1.keep _ _ _ t1 fun c hc o e=>by
   rcases hc with r | r
   ·rw [r] at e ⊢; exact b4.extBut _ _ D.i12 e
   ·rw [r] at e ⊢; exact b4.extBut _ _ D.l1i2 e
  refine wpAny_pure ⟨_,rfl,?_⟩
  show Q (.ref g4.objs.size) _
  have T8:IsPair (g4.push { cls:=.type "tuple",data:=.seq #[x,y] }) g4.objs.size x y:=Qi _ rfl
  rw [sz] at T8 ⊢
  refine hQ _ x y _ _ px py hf (Qa _ z4) ⟨_,_,Qa _ (kp4 _ _ D.TOz D.TOi1 D.TOi2 hTO)⟩ (S1.keep _ _ _ t1' fun c hc o e=>Qa _ e) (S2.keep _ _ _ t2 fun c hc o e=>Qa _ e) T8 (by rw [Jg,sz]) fun c o c1 c2 c3 c4 e=>Qa _ (kp4 c o c1 c3 c4 e)
theorem aDB {k:Nat} {a b f0:Value} {f1:Bool} {Q:Fin->Shared->Prop} (hh:A.handled=none) (D:ZipApart z TI TO i1 i2 l1 l2) (S1:Sub prog w i1 l1 n1 P1 st1) (S2:Sub prog w i2 l2 n2 P2 st2)
  (hz:gC s.heap z TI TO f0 f1) (hf:F0 f0) (hTI:IsPair s.heap TI (.ref i1) (.ref i2)) (hTO:IsPair s.heap TO a b) (h1:st1 k s.heap) (h2:st2 k s.heap) (hend:k=n1/\k<=n2∨k=n2/\k < n1)
  (hE:∀ h' e,(∀ c o,c≠z->c≠TO->c≠i1->c≠i2->s.heap.get? c=some o->h'.get? c=some o)->(∃ o,h'.get? e=some o/\o.cls=.type "StopIteration")->E (.ref e) { s with heap:=h' }) :
  wpAny (model prog w) A (Builtin.«zip.__next__» ⟨[.ref z],[]⟩) Q E s:=by
 refine wpAny_bind (m:=field (.ref z) 2) (wpAny_field hz rfl (x:=.bool false) rfl ?_)
 refine wpAny_bind (m:=field (.ref z) 3) (wpAny_field hz rfl (x:=.ref TI) rfl ?_)
 refine wpAny_bind (wpAny_seqItems hTI rfl ?_)
 refine wpAny_bind (m:=Builtin.SmallTypes.ownedTupleIsFree (.ref z)) (aCl hz hf ?_ fun h0 fb hz0 b0=>?_)
 ·simp only [if_true]
  refine wpAny_bind (wpAny_rule ?_)
  refine wpAny_bind (wpAny_field hz rfl (x:=.ref TO) rfl ?_)
  refine wpAny_bind (wpAny_setField_rec hz (by simp) fun g1 hz1 b1=>?_)
  have hz1':gC g1 z TI TO .ellipsis f1:=hz1
  refine wpAny_bind ?_
  simp only [Xy,Zc,Xl,Xt]
  have s1:st1 k g1:=S1.keep _ _ _ h1 fun c hc o e=>b1.extBut c o (by rcases hc with r | r <;> rw [r]; exact D.i1z; exact D.l1z) e
  refine wpAny_bind (wpAny_bind (wpAny_onRaise ?_))
  have fin:∀ (g:Heap) (e:Addr) (g0:Heap),(∃ o,g.get? e=some o/\o.cls=.type "StopIteration")->gC g z TI TO .ellipsis f1->(∀ c o,c≠z->c≠TO->c≠i1->c≠i2->s.heap.get? c=some o->g.get? c=some o) ->
    wpAny (model prog w) A (setField (.ref z) 0 .none) (fun _ s'=>E (.ref e) s') E { s with heap:=g }:=fun g e g0 ⟨oe,hoe,hce⟩ hzz kp=>by
   have hez:e≠z:=fun q=>by rw [q,hzz] at hoe; cases hoe; simp at hce
   exact wpAny_setField_rec hzz (by simp) fun g' _ b'=>hE g' e (fun c o c1 c2 c3 c4 q=>b'.extBut _ _ c1 (kp c o c1 c2 c3 c4 q)) ⟨oe,b'.extBut _ _ hez hoe,hce⟩
  rcases hend with ⟨e1,_⟩ | ⟨e2,k1⟩
  ·rw [e1] at s1
   refine wpAny_bind (m:=Builtin.SmallTypes.nextOf (.ref i1)) (S1.done _ _ _ _ hh s1 fun g2 e b2 he=>?_)
   exact fin g2 e g1 he (b2 _ _ D.i1z.symm hz1') fun c o c1 _ c3 _ q=>b2 _ _ c3 (b1.extBut _ _ c1 q)
  ·refine wpAny_bind (m:=Builtin.SmallTypes.nextOf (.ref i1)) (S1.item _ k _ _ _ k1 s1 fun x g2 px t1 b2=>wpAny_pure ?_)
   have o2:IsPair g2 TO a b:=b2.extBut _ _ D.TOi1 (b1.extBut _ _ D.TOz hTO)
   refine wpAny_bind (wpAny_seqItems o2 rfl ?_)
   refine wpAny_bind (wpAny_updateSeq_pair o2 fun g3 o3 b3=>?_)
   refine wpAny_bind (wpAny_letGo (wpAny_pure ?_))
   have s2:st2 n2 g3:=by
    rw [<- e2]
    exact S2.keep _ _ _ h2 fun c hc o e=>by
     rcases hc with r | r
     ·rw [r] at e ⊢; exact b3.extBut _ _ D.TOi2.symm (b2.extBut _ _ D.i12.symm (b1.extBut _ _ D.i2z e))
     ·rw [r] at e ⊢; exact b3.extBut _ _ D.l2TO (b2.extBut _ _ D.l2i1 (b1.extBut _ _ D.l2z e))
   refine wpAny_bind (wpAny_bind (wpAny_onRaise ?_))
   refine wpAny_bind (m:=Builtin.SmallTypes.nextOf (.ref i2)) (S2.done _ _ _ _ hh s2 fun g4 e b4 he=>?_)
   exact fin g4 e g3 he (b4 _ _ D.i2z.symm (b3.extBut _ _ D.TOz.symm (b2.extBut _ _ D.i1z.symm hz1'))) fun c o c1 c2 c3 c4 q=>b4 _ _ c4 (b3.extBut _ _ c2 (b2.extBut _ _ c3 (b1.extBut _ _ c1 q)))
 ·simp only [Xz,if_false]
  have s1:st1 k h0:=S1.keep _ _ _ h1 fun c hc o e=>b0.extBut c o (by rcases hc with r | r <;> rw [r]; exact D.i1z; exact D.l1z) e
  rw [<- Array.forIn_toList]
  simp only [Xl,Xt]
  refine wpAny_bind (wpAny_bind (wpAny_bind (wpAny_holding ?_)))
  rcases hend with ⟨e1,_⟩ | ⟨e2,k1⟩
  ·rw [e1] at s1
   refine wpAny_bind (m:=Builtin.SmallTypes.nextOf (.ref i1)) (S1.done _ _ _ _ hh s1 fun g2 e b2 he=>?_)
   exact hE g2 e (fun c o c1 _ c3 _ q=>b2 _ _ c3 (b0.extBut _ _ c1 q)) he
  ·refine wpAny_bind (m:=Builtin.SmallTypes.nextOf (.ref i1)) (S1.item _ k _ _ _ k1 s1 fun x g2 px t1 b2=>wpAny_pure ?_)
   refine wpAny_pure ?_
   have s2:st2 n2 g2:=by
    rw [<- e2]
    exact S2.keep _ _ _ h2 fun c hc o e=>by
     rcases hc with r | r
     ·rw [r] at e ⊢; exact b2.extBut _ _ D.i12.symm (b0.extBut _ _ D.i2z e)
     ·rw [r] at e ⊢; exact b2.extBut _ _ D.l2i1 (b0.extBut _ _ D.l2z e)
   refine wpAny_bind (wpAny_bind (wpAny_holding ?_))
   refine wpAny_bind (m:=Builtin.SmallTypes.nextOf (.ref i2)) (S2.done _ _ _ _ hh s2 fun g4 e b4 he=>?_)
   exact hE g4 e (fun c o c1 c2 c3 c4 q=>b4 _ _ c4 (b2.extBut _ _ c3 (b0.extBut _ _ c1 q))) he
structure ZipSt (h:Heap) (z TI TO i1 i2:Addr):Prop where
 hz:∃ f0 f1,F0 f0/\gC h z TI TO f0 f1
 ti:IsPair h TI (.ref i1) (.ref i2)
 to:∃ a b,IsPair h TO a b
theorem wN {e:Addr} {i:Nat} {old:Value} {Q:Value->Shared->Prop} (D:ZipApart z TI TO i1 i2 l1 l2) (S1:Sub prog w i1 l1 n1 P1 st1) (S2:Sub prog w i2 l2 n2 P2 st2) (he:IsEnum s.heap e z i old) (Z:ZipSt s.heap z TI TO i1 i2)
  (h1:st1 i s.heap) (h2:st2 i s.heap) (k1:i < n1) (k2:i < n2) (ne:e≠z/\e≠TI/\e≠TO/\e≠i1/\e≠i2/\e≠l1/\e≠l2)
  (hQ:∀ h' x y tk,P1 i x->P2 i y->IsEnumOut h' e z ((i:Int)+1) (.ref s.heap.objs.size) (s.heap.objs.size+1)->ZipSt h' z TI TO i1 i2->st1 (i+1) h'->st2 (i+1) h'->IsPair h' s.heap.objs.size x y ->
   h'.get? (s.heap.objs.size+1)=some { cls:=.type "tuple",data:=.seq #[.int i tk,.ref s.heap.objs.size] } ->
   (∀ c o,c≠e->c≠z->c≠TO->c≠i1->c≠i2->s.heap.get? c=some o->h'.get? c=some o)->Q (.ref (s.heap.objs.size+1)) { s with heap:=h',toks:=s.toks+1 }) :
  wpAny (model prog w) A (Builtin.«enumerate.__next__» ⟨[.ref e],[]⟩) (fun fin s'=>∃ v,fin=.done (.ret v)/\Q v s') E s:=by
 obtain ⟨⟨f0,f1,hf,hz⟩,hTI,⟨a,b,hTO⟩⟩:=Z
 obtain ⟨ne1,ne2,ne3,ne4,ne5,ne6,ne7⟩:=ne
 have hTz:s.TypeIs (.ref z) "zip" := ⟨_,hz,rfl⟩
 refine wpAny_bind (m:=field (.ref e) 2) (wpAny_field he rfl (x:=.ref z) rfl ?_)
 refine wpAny_bind (m:=Builtin.SmallTypes.nextOf (.ref z)) ?_
 unfold Builtin.SmallTypes.nextOf
 refine wpAny_bind (wpAny_callSpecial?_slot (name:=Str.ofString "__next__") hTz PySem.F.slot_zip_next (wpAny_call_entry PySem.F.slot_zip_next hTz PySem.F.entry_zip_next
  (aCm D S1 S2 hz hf hTI hTO h1 h2 k1 k2 fun g1 x y f0' f1' px py hf' hz' hTO' t1 t2 hp hsz kp=>?_) (PySem.F.args_zip_next_1 _)))
 refine wpAny_pure ?_
 have e1:IsEnum g1 e z i old:=kp _ _ ne1 ne3 ne4 ne5 he
 refine wpAny_bind (m:=field (.ref e) 3) (wpAny_field e1 rfl (x:=rawInt i) rfl ?_)
 refine wpAny_bind (m:=field (.ref e) 4) (wpAny_field e1 rfl (x:=.none) rfl ?_)
 refine wpAny_bind (m:=mkInt i) (wpAny_mkInt ?_)
 refine wpAny_bind (m:=setField (.ref e) 3 (rawInt ((i:Int)+1))) (wpAny_setField_rec e1 (by simp) fun g2 e2 b2=>?_)
 have e2':IsEnum g2 e z ((i:Int)+1) old:=e2
 refine wpAny_bind (m:=setField (.ref e) 4 .none) (wpAny_setField_rec e2' (by simp) fun g3 e3 b3=>?_)
 have e3':IsEnum g3 e z ((i:Int)+1) old:=e3
 refine wpAny_bind (m:=newTuple [.int i s.toks,.ref s.heap.objs.size]) (wpAny_newTuple ?_)
 have sz:g3.objs.size=s.heap.objs.size+1:=by rw [b3.1,b2.1,hsz]
 have e4:IsEnum (g3.push { cls:=.type "tuple",data:=.seq #[.int i s.toks,.ref s.heap.objs.size] }) e z ((i:Int)+1) old:=Qa _ e3'
 have T4:(g3.push { cls:=.type "tuple",data:=.seq #[.int i s.toks,.ref s.heap.objs.size] }).get? (s.heap.objs.size+1)=some { cls:=.type "tuple",data:=.seq #[.int i s.toks,.ref s.heap.objs.size] }:=by rw [<- sz]; exact Qi _ rfl
 have up4:∀ c o,c≠e->g1.get? c=some o->(g3.push { cls:=.type "tuple",data:=.seq #[.int i s.toks,.ref s.heap.objs.size] }).get? c=some o:=fun c o c1 q=>Qa _ (b3.extBut _ _ c1 (b2.extBut _ _ c1 q))
 have elt:s.heap.objs.size+1≠e:=Xj (Jy (Ql he))
 have elt0:s.heap.objs.size≠e:=Xj (Ql he)
 rw [sz]
 generalize g3.push { cls:=.type "tuple",data:=.seq #[.int i s.toks,.ref s.heap.objs.size] }=g4 at e4 T4 up4 ⊢
 refine wpAny_bind (m:=Builtin.SmallTypes.ownedTupleIsFree (.ref e)) ?_
 unfold Builtin.SmallTypes.ownedTupleIsFree
 refine wpAny_bind (wpAny_field e4 rfl (x:=.none) rfl (wpAny_pure ?_))
 simp only [if_true]
 refine wpAny_bind (wpAny_rule ?_)
 refine wpAny_bind (wpAny_field e4 rfl (x:=old) rfl ?_)
 refine wpAny_bind (wpAny_setField_rec e4 (by simp) fun g5 e5 b5=>?_)
 have e5':IsEnum g5 e z ((i:Int)+1) (.ref s.heap.objs.size):=e5
 refine wpAny_bind (m:=Builtin.SmallTypes.ownedTupleHandOut (.ref e) (.ref (s.heap.objs.size+1))) ?_
 unfold Builtin.SmallTypes.ownedTupleHandOut
 refine wpAny_bind (wpAny_setField_rec e5' (by simp) fun g6 e6 b6=>?_)
 have e6':IsEnumOut g6 e z ((i:Int)+1) (.ref s.heap.objs.size) (s.heap.objs.size+1):=e6
 refine wpAny_setField_rec e6' (by simp) fun g7 e7 b7=>?_
 have e7':IsEnumOut g7 e z ((i:Int)+1) (.ref s.heap.objs.size) (s.heap.objs.size+1):=e7
 have up:∀ c o,c≠e->g4.get? c=some o->g7.get? c=some o:=fun c o c1 q=>b7.extBut _ _ c1 (b6.extBut _ _ c1 (b5.extBut _ _ c1 q))
 have all:∀ c o,c≠e->g1.get? c=some o->g7.get? c=some o:=fun c o c1 q=>up c o c1 (up4 c o c1 q)
 obtain ⟨a',b',hTO'⟩:=hTO'
 refine wpAny_bind (wpAny_letGo (wpAny_pure ⟨_,rfl,hQ g7 x y s.toks px py e7' ⟨⟨_,_,hf',all _ _ ne1.symm hz'⟩,all _ _ ne2.symm (kp _ _ D.TIz D.TITO D.TIi1 D.TIi2 hTI),⟨_,_,all _ _ ne3.symm hTO'⟩⟩ (S1.keep _ _ _ t1 fun c hc o q=>all c o ?_ q) (S2.keep _ _ _ t2 fun c hc o q=>all c o ?_ q) (all _ _ elt0 hp) (up _ _ elt T4) fun c o c0 c1 c2 c3 c4 q=>all c o c0 (kp c o c1 c2 c3 c4 q)⟩))
 ·rcases hc with r | r <;> rw [r]
  ·exact ne4.symm
  ·exact ne6.symm
 ·rcases hc with r | r <;> rw [r]
  ·exact ne5.symm
  ·exact ne7.symm
theorem yO {e:Addr} {i:Nat} {old:Value} {Q:Fin->Shared->Prop} (hh:A.handled=none) (D:ZipApart z TI TO i1 i2 l1 l2) (S1:Sub prog w i1 l1 n1 P1 st1) (S2:Sub prog w i2 l2 n2 P2 st2) (he:IsEnum s.heap e z i old) (Z:ZipSt s.heap z TI TO i1 i2)
  (h1:st1 i s.heap) (h2:st2 i s.heap) (hend:i=n1/\i<=n2∨i=n2/\i < n1)
  (hE:∀ h' x,(∀ c o,c≠z->c≠TO->c≠i1->c≠i2->s.heap.get? c=some o->h'.get? c=some o)->(∃ o,h'.get? x=some o/\o.cls=.type "StopIteration")->E (.ref x) { s with heap:=h' }) :
  wpAny (model prog w) A (Builtin.«enumerate.__next__» ⟨[.ref e],[]⟩) Q E s:=by
 obtain ⟨⟨f0,f1,hf,hz⟩,hTI,⟨a,b,hTO⟩⟩:=Z
 have hTz:s.TypeIs (.ref z) "zip" := ⟨_,hz,rfl⟩
 refine wpAny_bind (m:=field (.ref e) 2) (wpAny_field he rfl (x:=.ref z) rfl ?_)
 refine wpAny_bind (m:=Builtin.SmallTypes.nextOf (.ref z)) ?_
 unfold Builtin.SmallTypes.nextOf
 exact wpAny_bind (wpAny_callSpecial?_slot (name:=Str.ofString "__next__") hTz PySem.F.slot_zip_next (wpAny_call_entry PySem.F.slot_zip_next hTz PySem.F.entry_zip_next
  (aDB hh D S1 S2 hz hf hTI hTO h1 h2 hend fun h' x kp hx=>hE h' x kp hx) (PySem.F.args_zip_next_1 _)))
end
def aCn (K:PySem.W.Frag) (k1 k2:Sk) (a b:Addr):It :=
 ⟨fun i H => ∃ xs ys x y, SqK k1 K H a xs /\ SqK k2 K H b ys /\ xs[i]? = some x /\ ys[i]? = some y,
  fun i H v H'=>∃ p q,H p=none/\H q=none/\q≠p/\v=.ref q/\∀ xs ys,SqK k1 K H a xs->SqK k2 K H b ys->∃ x y,xs[i]?=some x/\ys[i]?=some y/\H'=upd (upd H p (.tup [x,y])) q (.tup [.int (i:Nat),.ref p]),
  fun i H=>∃ xs ys,SqK k1 K H a xs/\SqK k2 K H b ys/\min xs.length ys.length=i⟩
theorem uU {P:Program} {w:World} {K:PySem.W.Frag} {es:List Expr} {x1} {pos:Pos} (k1 k2:Sk) (a b e z TI TO i1 i2:Addr) (D:∀ l1 l2:Addr,(∀ c∈[e,z,TI,TO,i1,i2],l1≠c)->(∀ c∈[e,z,TI,TO,i1,i2],l2≠c)->ZipApart z TI TO i1 i2 l1 l2)
  (ne:e≠z/\e≠TI/\e≠TO/\e≠i1/\e≠i2) :
  Turn P w K (.Tuple es x1 pos) (aCn K k1 k2 a b) [e,z,TI,TO,i1,i2] e (fun i h=>(∃ old,IsEnum h e z i old)/\ZipSt h z TI TO i1 i2/\ItK k1 h i1 a i/\ItK k2 h i2 b i) where
 mem:=by simp
 obj:=fun i h st c hc=>by
  obtain ⟨⟨old,he⟩,⟨⟨f0,f1,hf,hz⟩,hTI,⟨x,y,hTO⟩⟩,h1,h2⟩:=st
  simp only [Qm,Qo,or_false] at hc
  rcases hc with rfl | rfl | rfl | rfl | rfl | rfl
  ·exact ⟨_,he,fun v q=>by cases q⟩
  ·exact ⟨_,hz,fun v q=>by cases q⟩
  ·exact ⟨_,hTI,fun v q=>by cases q⟩
  ·exact ⟨_,hTO,fun v q=>by cases q⟩
  ·exact h1.obj
  ·exact h2.obj
 keep:=fun i h h' st k=>by
  obtain ⟨⟨old,he⟩,⟨⟨f0,f1,hf,hz⟩,hTI,⟨x,y,hTO⟩⟩,h1,h2⟩:=st
  exact ⟨⟨old,k e (by simp) _ he⟩,⟨⟨f0,f1,hf,k z (by simp) _ hz⟩,k TI (by simp) _ hTI,⟨x,y,k TO (by simp) _ hTO⟩⟩,h1.at fun o e=>k i1 (by simp) o e,h2.at fun o e=>k i2 (by simp) o e⟩
 item:=by
  intro X hP hw hK hc i pins s σ H E I hf st hg
  subst hP hw hK
  obtain ⟨⟨old,he⟩,Z,h1,h2⟩:=st
  obtain ⟨xs,ys,x,y,ha,hb,hx,hy⟩:=hg
  obtain ⟨its,rv,pa⟩:=I.seqK ha
  obtain ⟨jts,rw',pb⟩:=I.seqK hb
  obtain ⟨u,hu,ru⟩:=rv.get hx
  obtain ⟨v,hv,rv2⟩:=rw'.get hy
  have na:∀ c∈[e,z,TI,TO,i1,i2],a≠c:=fun c hc'=>I.seq_ne ha (hf c hc')
  have nb:∀ c∈[e,z,TI,TO,i1,i2],b≠c:=fun c hc'=>I.seq_ne hb (hf c hc')
  have DD:=D a b na nb
  have hT:s.TypeIs (.ref e) "enumerate" := ⟨_,he,rfl⟩
  have hi1:i < its.toArray.size:=by rw [Qj]; exact (Qd.mp hu).1
  have hi2:i < jts.toArray.size:=by rw [Qj]; exact (Qd.mp hv).1
  unfold pyNext
  refine wpAny_bind (wpAny_attempt (wpAny_callSpecial?_slot (name:=Str.ofString "__next__") hT PySem.F.slot_enumerate_next (wpAny_call_entry PySem.F.slot_enumerate_next hT PySem.F.entry_enumerate_next
   (wN DD (mJ k1 X.prog X.w i1 a its.toArray (na i1 (by simp))) (mJ k2 X.prog X.w i2 b jts.toArray (nb i2 (by simp))) he Z ⟨h1,pa⟩ ⟨h2,pb⟩ hi1 hi2
    ⟨ne.1,ne.2.1,ne.2.2.1,ne.2.2.2.1,ne.2.2.2.2,(na e (by simp)).symm,(nb e (by simp)).symm⟩ fun h' u' v' tk pu pv he' Z' s1 s2 hp1 hp2 kp=>wpAny_pure ?_) (PySem.F.args_enumerate_next_1 _))))
  have eu:u'=u:=by
   have q:its[i]?=some u':=by simpa using pu
   rw [hu] at q
   exact (Option.some.inj q).symm
  have ev:v'=v:=by
   have q:jts[i]?=some v':=by simpa using pv
   rw [hv] at q
   exact (Option.some.inj q).symm
  subst eu ev
  refine ⟨_,rfl,wpAny_letOwnedTupleGo_enum he' fun h2' he2 sb2=>?_⟩
  have T0:s.heap.objs.size≠e:=Xj (Ql he)
  have T1:s.heap.objs.size+1≠e:=Xj (Jy (Ql he))
  have hp1':IsPair h2' s.heap.objs.size u' v':=sb2.extBut _ _ T0 hp1
  have hp2':h2'.get? (s.heap.objs.size+1)=some { cls:=.type "tuple",data:=.seq #[.int i tk,.ref s.heap.objs.size] }:=sb2.extBut _ _ T1 hp2
  have hf0:=I.hok.fresh (Qh s.heap.objs.size)
  have hf1:=I.hok.fresh (Wk s.heap.objs.size)
  have fz:=I.fpOk (Qh s.heap.objs.size) hf0
  have fz1:=I.fpOk (Wk s.heap.objs.size) hf1
  have I2:Inv X pins σ H { s with heap:=h2',toks:=s.toks+1 }:=by
   refine I.turnedL (t':=s.toks+1) [e,z,TO,i1,i2] (fun c o hc' q=>?_) (fun c hc'=>hf c ?_)
   ·simp only [Qm,Qo,or_false,not_or] at hc'
    exact sb2.extBut _ _ hc'.1 (kp c o hc'.1 hc'.2.1 hc'.2.2.1 hc'.2.2.2.1 hc'.2.2.2.2 q)
   ·simp only [Qm,Qo,or_false] at hc' ⊢
    rcases hc' with r | r | r | r | r
    ·exact .inl r
    ·exact .inr (.inl r)
    ·exact .inr (.inr (.inr (.inl r)))
    ·exact .inr (.inr (.inr (.inr (.inl r))))
    ·exact .inr (.inr (.inr (.inr (.inr r))))
  have I3:Inv X pins σ (upd H s.heap.objs.size (.tup [x,y])) { s with heap:=h2',toks:=s.toks+1 }:=by
   refine I2.trackO (show bW X.prog X.w _ _ _ (.tup [x,y]) from ⟨by show 2<=sizeLine; rw [sizeLine_eq]; decide,[u',v'],0,.cons ru (.cons rv2 .nil),hp1'⟩) hf0 fz.2.1 I.sz fz.2.2.2.2.1 fz.2.2.2.2.2
  have nn:s.heap.objs.size+1≠s.heap.objs.size:=Nat.succ_ne_self _
  have I4:Inv X pins σ (upd (upd H s.heap.objs.size (.tup [x,y])) (s.heap.objs.size+1) (.tup [.int (i:Nat),.ref s.heap.objs.size])) { s with heap:=h2',toks:=s.toks+1 }:=by
   refine I3.trackO (show bW X.prog X.w _ _ _ (.tup [.int (i:Nat),.ref s.heap.objs.size]) from ⟨by show 2<=sizeLine; rw [sizeLine_eq]; decide,[.int i tk,.ref s.heap.objs.size],0,.cons ⟨tk,rfl⟩ (.cons rfl .nil),hp2'⟩) (by rw [aI nn]; exact hf1) fz1.2.1 (Qz I.sz (Wk _)) fz1.2.2.2.2.1 fz1.2.2.2.2.2
  obtain ⟨⟨g0,g1,hg,hz'⟩,hTI',⟨a',b',hTO'⟩⟩:=Z'
  refine ⟨.ref (s.heap.objs.size+1),_,I4,rfl,⟨s.heap.objs.size,s.heap.objs.size+1,hf0,hf1,nn,rfl,fun xs' ys' ha' hb'=>?_⟩,⟨⟨_,by simpa using he2⟩,⟨⟨g0,g1,hg,sb2.extBut _ _ ne.1.symm hz'⟩,sb2.extBut _ _ ne.2.1.symm hTI',⟨_,_,sb2.extBut _ _ ne.2.2.1.symm hTO'⟩⟩,s1.1.at fun o q=>sb2.extBut _ _ ne.2.2.2.1.symm q,s2.1.at fun o q=>sb2.extBut _ _ ne.2.2.2.2.symm q⟩,fun c hc'=>?_⟩
  ·rw [I.seqK_inj ha' ha,I.seqK_inj hb' hb]
   exact ⟨x,y,hx,hy,rfl⟩
  ·have cl:c < s.heap.objs.size:=by
    obtain ⟨o,q⟩:∃ o,s.heap.get? c=some o:=by
     obtain ⟨⟨f0,f1,hf',hz⟩,hTI,⟨x',y',hTO⟩⟩:=Z
     simp only [Qm,Qo,or_false] at hc'
     rcases hc' with rfl | rfl | rfl | rfl | rfl | rfl
     ·exact ⟨_,he⟩
     ·exact ⟨_,hz⟩
     ·exact ⟨_,hTI⟩
     ·exact ⟨_,hTO⟩
     ·obtain ⟨o,q,_⟩:=h1.obj; exact ⟨o,q⟩
     ·obtain ⟨o,q,_⟩:=h2.obj; exact ⟨o,q⟩
    exact Ql q
   rw [aI (Je (Jy cl)),aI (Je cl)]
   exact (hf c hc').1
 done:=by
  intro X hP hw hK hc i pins s σ H E I hf st hg
  subst hP hw hK
  obtain ⟨⟨old,he⟩,Z,h1,h2⟩:=st
  obtain ⟨xs,ys,ha,hb,hmin⟩:=hg
  obtain ⟨its,rv,pa⟩:=I.seqK ha
  obtain ⟨jts,rw',pb⟩:=I.seqK hb
  have la:=rv.length
  have lb:=rw'.length
  have na:∀ c∈[e,z,TI,TO,i1,i2],a≠c:=fun c hc'=>I.seq_ne ha (hf c hc')
  have nb:∀ c∈[e,z,TI,TO,i1,i2],b≠c:=fun c hc'=>I.seq_ne hb (hf c hc')
  have DD:=D a b na nb
  have hT:s.TypeIs (.ref e) "enumerate" := ⟨_,he,rfl⟩
  unfold pyNext
  refine wpAny_bind (wpAny_attempt (wpAny_callSpecial?_slot (name:=Str.ofString "__next__") hT PySem.F.slot_enumerate_next (wpAny_call_entry PySem.F.slot_enumerate_next hT PySem.F.entry_enumerate_next
   (yO (I.ok.hd hc) DD (mJ k1 X.prog X.w i1 a its.toArray (na i1 (by simp))) (mJ k2 X.prog X.w i2 b jts.toArray (nb i2 (by simp))) he Z ⟨h1,pa⟩ ⟨h2,pb⟩ (by rw [Qj,Qj]; omega) fun h' x kp hx=>?_) (PySem.F.args_enumerate_next_1 _))))
  obtain ⟨oe,hoe,hce⟩:=hx
  refine wpAny_bind (wpAny_isInstance (T := "StopIteration") (b:=true) ⟨oe,hoe,hce⟩ isSubtype_stop (wpAny_pure ⟨rfl,?_⟩))
  refine I.turnedL (t':=s.toks) [z,TO,i1,i2] (fun c o hc' q=>?_) (fun c hc'=>hf c ?_)
  ·simp only [Qm,Qo,or_false,not_or] at hc'
   exact kp c o hc'.1 hc'.2.1 hc'.2.2.1 hc'.2.2.2 q
  ·simp only [Qm,Qo,or_false] at hc' ⊢
   rcases hc' with r | r | r | r
   ·exact .inr (.inl r)
   ·exact .inr (.inr (.inr (.inl r)))
   ·exact .inr (.inr (.inr (.inr (.inl r))))
   ·exact .inr (.inr (.inr (.inr (.inr r))))
 self:=fun _ _ _ _ _ st h=>by
  obtain ⟨⟨old,he⟩,_⟩:=st
  exact wpAny_pyIter_enum he h
theorem sM (z TI TO:Addr) :
  Meets (Builtin.«enumerate.__new__» ⟨[.type "enumerate",.ref z],[]⟩) (fun _ R s=>IsZip s.heap z TI TO .none /\
   R (.ok (.ret (.ref s.heap.objs.size))) { s with heap:=s.heap.push { cls:=.type "enumerate",data:=.fields #[.none,.bool false,.ref z,rawInt 0,.none,.none] } }) :=
 .of_wp fun prog w A R s h=>by
  obtain ⟨hp,g,d,tk,os⟩:=s
  obtain ⟨hl,h⟩:=h
  have hsub:=sub_enumerate
  have hZ:IsZip (Shared.heap ⟨hp,g,d,tk,os⟩) z TI TO .none:=hl
  wp_walk using AutoSeq1.wpAny_loadPart' hZ
  refine wpAny_stack_any fun st=>wpAny_pure ?_
  split
  ·rename_i c _ _ _ _ _
   cases (c==Value.type "enumerate")
   ·wp_walk using AutoSeq1.wpAny_loadPart' hZ,wpAny_pyIter_zip hZ
    exact ⟨_,rfl,h⟩
   ·wp_walk using AutoSeq1.wpAny_loadPart' hZ,wpAny_pyIter_zip hZ
    exact ⟨_,rfl,h⟩
  ·wp_walk using AutoSeq1.wpAny_loadPart' hZ,wpAny_pyIter_zip hZ
   exact ⟨_,rfl,h⟩
section
variable {X:Cx} {es:List Expr} {x1:Nat} {tpos:Pos}
def aCo (K:PySem.W.Frag) (k1 k2:Sk) (ta:TA):TI:=fun σ H R=>ta σ H fun vs H1=>∃ a b xs ys,vs = [.ref a,.ref b]/\SqK k1 K H1 a xs/\SqK k2 K H1 b ys/\R (aCn K k1 k2 a b) H1
theorem qB (k1 k2:Sk) {a b:Expr} {ta:TA} {p pos p' pos':Pos} (hg:Gl X "enumerate") (hm:X.mg "enumerate" = none) (hg2:Gl X "zip") (hm2:X.mg "zip" = none) (ha:PA X [a,b] ta)
  (hs:starEach [a,b] X.env = [(false,eval a X.env),(false,eval b X.env)]:=by rfl) (hs2:starEach [b] X.env = [(false,eval b X.env)]:=by rfl)
  (hs3:starEach [Expr.Call (.Name "zip" p') [a,b] [] pos'] X.env = [(false,eval (.Call (.Name "zip" p') [a,b] [] pos') X.env)]:=by rfl) :
  PI X (.Tuple es x1 tpos) (.Call (.Name "enumerate" p) [.Call (.Name "zip" p') [a,b] [] pos'] [] pos) (aCo X.K k1 k2 ta):=by
 intro pins s σ H R I h
 refine Call_ (hJ (u:=.type "enumerate") I hg hm (by decide +kernel) (PyProof.Rows.callWith_type1 ?_ hs3 rfl))
 rw [hs3]
 show wpAny _ _ (spliced ((false,eval (.Call (.Name "zip" p') [a,b] [] pos') X.env)::[])) _ _ s
 refine Calls.spliced_cons ?_
 refine Call_ (hJ (u:=.type "zip") I hg2 hm2 (by decide +kernel) (PyProof.Rows.callWith_type1 (thn (ha pos' pins s σ H _ I h) fun us s1 hx9=>?_) (by rw [hs,hs2]) (by rw [hs2]; rfl)))
 obtain ⟨vs,H1,I1,r1,q1⟩:=hx9
 obtain ⟨l1,l2,xs,ys,rfl,hA,hB,q⟩:=q1
 obtain ⟨u1,u2,rfl,r1',r2'⟩:=kE r1
 cases r1'
 cases r2'
 obtain ⟨its,rv,pa⟩:=I1.seqK hA
 obtain ⟨jts,rw',pb⟩:=I1.seqK hB
 refine callType_new PySem.F.called_zip (by decide) (PySem.F.typeCall_zip_2 _ _) (PySem.F.newCall_zip_2 _ _) (fun obj=>PySem.F.args_object_init_3 obj _ _) PySem.F.entry_zip_new (vY k1 k2 l1 l2 its.toArray jts.toArray) ⟨pa,pb,?_⟩
 have n1:(zh1 k1 s1.heap l1).objs.size=s1.heap.objs.size+1:=Jg ..
 have n2:(zh2 k1 k2 s1.heap l1 l2).objs.size=s1.heap.objs.size+2:=by rw [Jg,n1]
 have n3:(zh3 k1 k2 s1.heap l1 l2).objs.size=s1.heap.objs.size+3:=by rw [Jg,n2]
 have n4:(zh4 k1 k2 s1.heap l1 l2).objs.size=s1.heap.objs.size+4:=by rw [Jg,n3]
 have n5:(zh5 k1 k2 s1.heap l1 l2).objs.size=s1.heap.objs.size+5:=by rw [Jg,n4]
 have g5:IsZip (zh5 k1 k2 s1.heap l1 l2) (zh4 k1 k2 s1.heap l1 l2).objs.size (zh2 k1 k2 s1.heap l1 l2).objs.size (zh3 k1 k2 s1.heap l1 l2).objs.size .none:=Qi _ rfl
 have g4:IsPair (zh5 k1 k2 s1.heap l1 l2) (zh3 k1 k2 s1.heap l1 l2).objs.size .none .none:=Qa _ (Qi _ rfl)
 have g3:IsPair (zh5 k1 k2 s1.heap l1 l2) (zh2 k1 k2 s1.heap l1 l2).objs.size (.ref s1.heap.objs.size) (.ref (zh1 k1 s1.heap l1).objs.size):=Qa _ (Qa _ (Qi _ rfl))
 have g2:ItK k2 (zh5 k1 k2 s1.heap l1 l2) (zh1 k1 s1.heap l1).objs.size l2 0:=(ItK.new k2 (zh1 k1 s1.heap l1) l2).at fun o e=>Qa _ (Qa _ (Qa _ e))
 have g1:ItK k1 (zh5 k1 k2 s1.heap l1 l2) s1.heap.objs.size l1 0:=(ItK.new k1 s1.heap l1).at fun o e=>Qa _ (Qa _ (Qa _ (Qa _ e)))
 have kp:∀ c o,s1.heap.get? c=some o->(zh5 k1 k2 s1.heap l1 l2).get? c=some o:=fun c o e=>Qa _ (Qa _ (Qa _ (Qa _ (Qa _ e))))
 refine ⟨⟨_,g5,rfl⟩,Calls.spliced_nil ?_⟩
 rw [n1,n2,n3,n4] at *
 generalize zh5 k1 k2 s1.heap l1 l2=hz5 at *
 refine callType_new PySem.F.called_enumerate (by decide) (PySem.F.typeCall_enumerate_1 _) (PySem.F.newCall_enumerate_1 _) (fun obj=>PySem.F.args_object_init_2 obj _) PySem.F.entry_enumerate_new (sM (s1.heap.objs.size+4) (s1.heap.objs.size+2) (s1.heap.objs.size+3)) ⟨g5,?_⟩
 have ge:IsEnum (hz5.push { cls:=.type "enumerate",data:=.fields #[.none,.bool false,.ref (s1.heap.objs.size+4),rawInt 0,.none,.none] }) hz5.objs.size (s1.heap.objs.size+4) 0 .none:=Qi _ rfl
 have kp6:∀ c o,hz5.get? c=some o->(hz5.push { cls:=.type "enumerate",data:=.fields #[.none,.bool false,.ref (s1.heap.objs.size+4),rawInt 0,.none,.none] }).get? c=some o:=fun c o e=>Qa _ e
 rw [n5] at ge
 show (∃ _,_)/\_
 rw [n5]
 generalize hz5.push { cls:=.type "enumerate",data:=.fields #[.none,.bool false,.ref (s1.heap.objs.size+4),rawInt 0,.none,.none] }=h6 at ge kp6 ⊢
 refine ⟨⟨_,ge,rfl⟩,wpAny_pyIter_enum ge ?_⟩
 have I2:Inv X pins σ H1 { s1 with heap:=h6 }:=I1.kept (t':=s1.toks) fun c o e=>kp6 c o (kp c o e)
 have d:∀ i j:Nat,i≠j->s1.heap.objs.size+i≠s1.heap.objs.size+j:=fun i j h=>by omega
 refine ⟨s1.heap.objs.size+5,[s1.heap.objs.size+5,s1.heap.objs.size+4,s1.heap.objs.size+2,s1.heap.objs.size+3,s1.heap.objs.size,s1.heap.objs.size+1],_,_,H1,rfl,I2,uU k1 k2 l1 l2 _ _ _ _ _ _ ?_ ⟨d 5 4 (by decide),d 5 2 (by decide),d 5 3 (by decide),d 5 0 (by decide),d 5 1 (by decide)⟩,⟨⟨_,ge⟩,⟨⟨_,_,.inl rfl,kp6 _ _ g5⟩,kp6 _ _ g3,⟨_,_,kp6 _ _ g4⟩⟩,g1.at fun o e=>kp6 _ _ e,g2.at fun o e=>kp6 _ _ e⟩,fun c hc=>?_,q⟩
 ·intro m1 m2 h1 h2
  exact ⟨d 2 4 (by decide),d 3 4 (by decide),d 0 4 (by decide),d 1 4 (by decide),d 2 3 (by decide),d 2 0 (by decide),d 2 1 (by decide),d 3 0 (by decide),d 3 1 (by decide),d 0 1 (by decide),
   h1 _ (by simp),h1 _ (by simp),h1 _ (by simp),h1 _ (by simp),h2 _ (by simp),h2 _ (by simp),h2 _ (by simp),h2 _ (by simp)⟩
 ·have hc':s1.heap.objs.size<=c:=by
   simp only [Qm,Qo,or_false] at hc
   rcases hc with r | r | r | r | r | r <;> rw [r]
   all_goals first | exact Qh _ | exact Jx _ _
  exact I1.fpOk hc' (I1.hok.fresh hc')
end
theorem oN {K:PySem.W.Frag} {k1 k2:Sk} {a b:Addr} {xs ys:List V} {g:TG} {tb:TS} {D:Ends} {σ:St} {H:Hp} (Pv:Nat->St->Hp->Prop) (heq:xs.length=ys.length) (h0:Pv 0 σ H) (hl:∀ i σ H,i<=xs.length->Pv i σ H->SqK k1 K H a xs/\SqK k2 K H b ys)
  (hs:∀ i x y p q σ H,xs[i]?=some x->ys[i]?=some y->Pv i σ H->H p=none->H q=none->q≠p->g (.ref q) σ (upd (upd H p (.tup [x,y])) q (.tup [.int (i:Nat),.ref p])) fun σ2 H2=>tb { D with nx:=Pv (i+1),ct:=Pv (i+1),bk:=D.nx } σ2 H2) (hd:∀ σ H,Pv xs.length σ H->D.nx σ H) :
  ∃ W:Nat->Nat->St->Hp->Prop,(∃ m,W 0 m σ H)/\∀ i m σ H,W i m σ H ->
   ((aCn K k1 k2 a b).stop i H/\D.nx σ H)∨((aCn K k1 k2 a b).go i H/\∃ N:St->Hp->Prop,(∀ σ' H',N σ' H'->∃ m',m' < m/\W (i+1) m' σ' H')/\∀ x H',(aCn K k1 k2 a b).yld i H x H'->g x σ H' fun σ2 H2=>tb { D with nx:=N,ct:=N,bk:=D.nx } σ2 H2):=by
 refine ⟨fun i m σ H=>m=xs.length - i/\i<=xs.length/\Pv i σ H,⟨xs.length,by simp,Jo _,h0⟩,?_⟩
 rintro i m σ H ⟨rfl,hi,p⟩
 obtain ⟨q1,q2⟩:=hl i σ H hi p
 by_cases hlt:i < xs.length
 ·refine .inr ⟨⟨xs,ys,xs[i],ys[i]'(by omega),q1,q2,Qc hlt,Qc (by omega)⟩,Pv (i+1),fun σ' H' p'=>⟨xs.length - (i+1),by omega,rfl,hlt,p'⟩,fun x H' y=>?_⟩
  obtain ⟨p1,q1',hp1,hq1,hne,rfl,hy⟩:=y
  obtain ⟨x,y,h1,h2,rfl⟩:=hy xs ys q1 q2
  exact hs i x y p1 q1' σ H h1 h2 p hp1 hq1 hne
 ·have e:i=xs.length:=by omega
  subst e
  exact .inl ⟨⟨xs,ys,q1,q2,by rw [<- heq,Ww]⟩,hd σ H p⟩
end L2
namespace L2
open PySem
section
variable {X:Cx} {K:PySem.W.Frag} {pos:Pos}
end
section
variable {α β γ δ ε ζ η θ ι κ:Type}
end
end L2
namespace L2
open PySem PySem.Spec PyProof.Rows
section
variable {X:Cx}
end
section
variable {K:PySem.W.Frag} {own:Nat} {fr:List Nat} {g:TG} {te:TE} {σ:St} {H:Hp} {Qf:Hp->List V->Prop}
end
structure Tb (L:Bool) (t:SetTable) (n m:Nat):Prop where
 mask:(t.mask=7/\n<=m)∨(t.mask=31/\n<=12)
 dums:t.dummies = #[]
 plain:t.plain=true
 led:t.led=L
 size:t.place.size=n
 rise:t.place.toList.Pairwise (· < ·)
def ent (p:Int×Tok):Int×Value:=(hashInt p.1,.int p.1 p.2)
def SG (L:Bool) (h:Heap) (a:Addr) (ks:List (Int×Tok)):Prop:=∃ o ep es t,h.get? a=some o/\o.ExactSet/\o.data=.set es ep t/\es.toList.Perm (ks.map ent)/\Tb L t es.size 4
theorem SG.keep {L:Bool} {h h':Heap} {a:Addr} {l:List (Int×Tok)} (x:SG L h a l) (k:∀ o,h.get? a=some o->h'.get? a=some o):SG L h' a l:=by
 obtain ⟨o,ep,es,t,e,r⟩:=x
 exact ⟨o,ep,es,t,k o e,r⟩
section
variable {prog:Program} {w:World} {A:Around} {E:Value->Shared->Prop} {s:Shared} {L:Bool} {a:Addr}
structure KsOf (ks:List (Int×Tok)) (ns:List Int):Prop where
 nd:(ks.map (·.1)).Nodup
 mem:∀ k,k∈ks.map (·.1)↔k∈ns
 len:ks.length<=ns.length
end
section
variable {prog:Program} {w:World} {A:Around} {E:Value->Shared->Prop} {s:Shared} {S:Addr} {o:Obj} {ep:Nat} {es:Array (Int×Value)} {t:SetTable}
end
section
variable {X:Cx}
end
open PySem.AutoSeq1 (wpAny_loadPart')
theorem sN (l:Addr) (items:Array Value) (n:Nat) (dd:Option Addr) (sl:Array (Option Value)) (u:Tok) :
  Meets (Builtin.«tuple.__mul__» ⟨[.ref l,.int 1 u],[]⟩) (fun _ R s=>s.heap.get? l=some { cls:=.type "tuple",dict:=dd,data:=.seq items n,slots:=sl }/\R (.ok (.ret (Value.ref l))) s) :=
 .of_wp fun prog w A R s h=>by
  obtain ⟨hp,g,d,tk,os⟩:=s
  obtain ⟨hl,h⟩:=h
  have f1:=AutoSeq1.idx_int
  have f2:=AutoSeq1.sub_tuple_tuple
  wp_walk using wpAny_loadPart' hl
  exact ⟨_,rfl,h⟩
theorem qC (l:Addr) (items:Array Value) (n:Nat) (dd:Option Addr) (sl:Array (Option Value)) (u:Tok) (hne:items.isEmpty=false) :
  Meets (Builtin.«tuple.__mul__» ⟨[.ref l,.int 0 u],[]⟩) (fun _ R s=>s.heap.get? l=some { cls:=.type "tuple",dict:=dd,data:=.seq items n,slots:=sl }/\R (.ok (.ret (Value.ref s.heap.objs.size))) { s with heap:=s.heap.push { cls:=Value.type "tuple",data:=Data.seq #[] } }) :=
 .of_wp fun prog w A R s h=>by
  obtain ⟨hp,g,d,tk,os⟩:=s
  obtain ⟨hl,h⟩:=h
  have f1:=AutoSeq1.idx_int
  have f2:=AutoSeq1.sub_tuple_tuple
  wp_walk using wpAny_loadPart' hl
  exact ⟨_,rfl,h⟩
theorem oW (l:Addr) (items:Array Value) (n:Nat) (dd:Option Addr) (sl:Array (Option Value)) (u:Tok) (hne:items.isEmpty=true) :
  Meets (Builtin.«tuple.__mul__» ⟨[.ref l,.int 0 u],[]⟩) (fun _ R s=>s.heap.get? l=some { cls:=.type "tuple",dict:=dd,data:=.seq items n,slots:=sl }/\R (.ok (.ret (Value.ref l))) s) :=
 .of_wp fun prog w A R s h=>by
  obtain ⟨hp,g,d,tk,os⟩:=s
  obtain ⟨hl,h⟩:=h
  have f1:=AutoSeq1.idx_int
  have f2:=AutoSeq1.sub_tuple_tuple
  wp_walk using wpAny_loadPart' hl
  exact ⟨_,rfl,h⟩
def aFA (K:PySem.W.Frag):R2:=fun x y H Q=>∃ a,∃ k:Nat,∃ xs,x=.ref a/\y=.int k/\SqT K H a xs/\k<=1000/\xs.length<=1000/\∀ p H',aE H H'->SqT K H' p (List.replicate k xs).flatten->Q (.ref p) H'
theorem uV {X:Cx} {K:PySem.W.Frag} (hK:X.K=K):OpR X (binaryOp .Mult) (aFA K):=by
 intro pins s σ H x y v u Q I rx ry h
 obtain ⟨a,k,xs,rfl,rfl,ha,h2,hz,q⟩:=h
 by_cases h1:1 < k
 ·exact aDn hK pins s σ H _ _ v u Q I rx ry ⟨a,k,xs,rfl,rfl,ha,by omega,by omega,hz,q⟩
 subst hK
 cases rx
 obtain ⟨t,rfl⟩:=ry
 obtain ⟨its,r,⟨⟨cls,dd,data,sl⟩,ho,hc,n,hd⟩,hzz⟩:=I.tuple ha
 simp only at hc hd
 subst hc hd
 refine wpAny_binaryOp_repeat_ref (T := "tuple") (U := "int") (by decide) ⟨_,ho,rfl⟩ (fun s'=>typeIs_int s' k t) iV PySem.F.fills_int_mul PySem.F.slot_int_rmul mL PySem.F.slot_int_index.lookup
  (call_meets PySem.F.slot_int_rmul (typeIs_int s k t) PySem.F.entry_int_rmul (PySem.F.args_int_rmul_2 _ _) (kJ k t a its.toArray n dd sl) ⟨ho,rfl,⟨_,ho,rfl⟩,?_⟩)
 rcases (show k=0∨k=1 by omega) with rfl | rfl
 ·by_cases hx:its = []
  ·subst hx
   cases r
   refine call_meets PySem.F.slot_tuple_mul ⟨_,ho,rfl⟩ PySem.F.entry_tuple_mul (PySem.F.args_tuple_mul_2 _ _) (oW a _ n dd sl t rfl) ⟨ho,?_⟩
   exact ⟨.ref a,H,I,rfl,q a H (aE.refl H) ha⟩
  ·have hne:its.toArray.isEmpty=false:=by
    cases its with
    | nil=>exact absurd rfl hx
    | cons _ _=>rfl
   refine call_meets PySem.F.slot_tuple_mul ⟨_,ho,rfl⟩ PySem.F.entry_tuple_mul (PySem.F.args_tuple_mul_2 _ _) (qC a its.toArray n dd sl t hne) ⟨ho,?_⟩
   refine ⟨.ref _,_,I.laid (t':=s.toks) (o:=.tup []) (fun b ob q=>Qa _ q) (Qh _) ?_,rfl,q _ _ (aE.new (I.hok.fresh (Qh _))) (SqT.of aC)⟩
   exact ⟨Jo _,[],0,.nil,Qi _ rfl⟩
 ·refine call_meets PySem.F.slot_tuple_mul ⟨_,ho,rfl⟩ PySem.F.entry_tuple_mul (PySem.F.args_tuple_mul_2 _ _) (sN a its.toArray n dd sl t) ⟨ho,?_⟩
  exact ⟨.ref a,H,I,rfl,q a H (aE.refl H) (by simpa using ha)⟩
abbrev gD (h:Heap) (T:Addr) (a b c:Value):Prop:=h.get? T=some { cls:=.type "tuple",data:=.seq #[a,b,c] }
structure Zip3Apart (z TI TO i1 i2 i3 l1 l2 l3:Addr):Prop where
 TIz:TI≠z
 TOz:TO≠z
 i1z:i1≠z
 i2z:i2≠z
 i3z:i3≠z
 TITO:TI≠TO
 TIi1:TI≠i1
 TIi2:TI≠i2
 TIi3:TI≠i3
 TOi1:TO≠i1
 TOi2:TO≠i2
 TOi3:TO≠i3
 i12:i1≠i2
 i13:i1≠i3
 i23:i2≠i3
 l1:∀ c∈[z,TO,i1,i2,i3],l1≠c
 l2:∀ c∈[z,TO,i1,i2,i3],l2≠c
 l3:∀ c∈[z,TO,i1,i2,i3],l3≠c
section
variable {prog:Program} {w:World} {A:Around} {E:Value->Shared->Prop} {s:Shared} {z TI TO i1 i2 i3 l1 l2 l3:Addr} {n n2 n3:Nat} {P1 P2 P3:Nat->Value->Prop} {st1 st2 st3:Nat->Heap->Prop}
theorem uW {T:Addr} {a b c x:Value} {k:Nat} {Q:Unit->Shared->Prop} (h:gD s.heap T a b c)
  (hQ:∀ h':Heap,h'.get? T=some { cls:=.type "tuple",data:=.seq (#[a,b,c].setIfInBounds k x) }->Heap.SameBut T s.heap h'->Q () { s with heap:=h' }) :
  wpAny (model prog w) A (updateSeq T fun xs=>xs.setIfInBounds k x) Q E s:=by
 refine wpAny_updateSeq (n:=0) h rfl ?_ (by rw [sizeLine_eq]; show 3<=_; decide) (by rw [Array.size_setIfInBounds,sizeLine_eq]; show 3<=_; decide)
 have g:=Xs (Obj.mapSeq fun xs=>xs.setIfInBounds k x) h rfl
 refine hQ _ (g.trans ?_) (Heap.SameBut.update _ _ _)
 simp [Obj.mapSeq]
theorem aCp {k:Nat} {a b c:Value} {Q:Value->Shared->Prop} (D:Zip3Apart z TI TO i1 i2 i3 l1 l2 l3) (S1:Sub prog w i1 l1 n P1 st1) (S2:Sub prog w i2 l2 n2 P2 st2) (S3:Sub prog w i3 l3 n3 P3 st3)
  (hz:IsZip s.heap z TI TO .none) (hTI:gD s.heap TI (.ref i1) (.ref i2) (.ref i3)) (hTO:gD s.heap TO a b c) (h1:st1 k s.heap) (h2:st2 k s.heap) (h3:st3 k s.heap) (kn:k < n) (kn2:k < n2) (kn3:k < n3)
  (hQ:∀ h' x y v,P1 k x->P2 k y->P3 k v->IsZip h' z TI TO (rawInt s.heap.objs.size)->gD h' TO x y v->st1 (k+1) h'->st2 (k+1) h'->st3 (k+1) h'->gD h' s.heap.objs.size x y v ->
   (∀ c o,c≠z->c≠TO->c≠i1->c≠i2->c≠i3->s.heap.get? c=some o->h'.get? c=some o)->Q (.ref s.heap.objs.size) { s with heap:=h' }) :
  wpAny (model prog w) A (Builtin.«zip.__next__» ⟨[.ref z],[]⟩) (fun fin s'=>∃ v,fin=.done (.ret v)/\Q v s') E s:=by
 have L1:∀ {c},c∈[z,TO,i1,i2,i3]->l1≠c:=fun h=>D.l1 _ h
 have L2':∀ {c},c∈[z,TO,i1,i2,i3]->l2≠c:=fun h=>D.l2 _ h
 have L3:∀ {c},c∈[z,TO,i1,i2,i3]->l3≠c:=fun h=>D.l3 _ h
 refine wpAny_bind (m:=field (.ref z) 2) (wpAny_field hz rfl (x:=.bool false) rfl ?_)
 refine wpAny_bind (m:=field (.ref z) 3) (wpAny_field hz rfl (x:=.ref TI) rfl ?_)
 refine wpAny_bind (wpAny_seqItems hTI rfl ?_)
 refine wpAny_bind (m:=Builtin.SmallTypes.ownedTupleIsFree (.ref z)) ?_
 unfold Builtin.SmallTypes.ownedTupleIsFree
 refine wpAny_bind (wpAny_field hz rfl (x:=.none) rfl (wpAny_pure ?_))
 simp only [if_true]
 refine wpAny_bind (wpAny_rule ?_)
 refine wpAny_bind (wpAny_field hz rfl (x:=.ref TO) rfl ?_)
 refine wpAny_bind (wpAny_setField_rec hz (by simp) fun g1 hz1 b1=>?_)
 have hz1':IsZip g1 z TI TO .ellipsis:=hz1
 refine wpAny_bind ?_
 simp only [Xy,Zc,Xl,Xt]
 -- the first one
 have s1:st1 k g1:=S1.keep _ _ _ h1 fun c hc o e=>b1.extBut c o (by rcases hc with r | r <;> rw [r]; exact D.i1z; exact L1 (by simp)) e
 refine wpAny_bind (wpAny_bind (wpAny_onRaise ?_))
 refine wpAny_bind (m:=Builtin.SmallTypes.nextOf (.ref i1)) (S1.item _ k _ _ _ kn s1 fun x g2 px t1 b2=>wpAny_pure ?_)
 have o2:gD g2 TO a b c:=b2.extBut _ _ D.TOi1 (b1.extBut _ _ D.TOz hTO)
 refine wpAny_bind (wpAny_seqItems o2 rfl ?_)
 refine wpAny_bind (uW o2 fun g3 o3 b3=>?_)
 have o3':gD g3 TO x b c:=o3
 refine wpAny_bind (wpAny_letGo (wpAny_pure ?_))
 -- the second one
 have s2:st2 k g3:=S2.keep _ _ _ h2 fun c hc o e=>by
  rcases hc with r | r
  ·rw [r] at e ⊢; exact b3.extBut _ _ D.TOi2.symm (b2.extBut _ _ D.i12.symm (b1.extBut _ _ D.i2z e))
  ·rw [r] at e ⊢; exact b3.extBut _ _ (L2' (by simp)) (b2.extBut _ _ (L2' (by simp)) (b1.extBut _ _ (L2' (by simp)) e))
 refine wpAny_bind (wpAny_bind (wpAny_onRaise ?_))
 refine wpAny_bind (m:=Builtin.SmallTypes.nextOf (.ref i2)) (S2.item _ k _ _ _ kn2 s2 fun y g4 py t2 b4=>wpAny_pure ?_)
 have o4:gD g4 TO x b c:=b4.extBut _ _ D.TOi2 o3'
 refine wpAny_bind (wpAny_seqItems o4 rfl ?_)
 refine wpAny_bind (uW o4 fun g5 o5 b5=>?_)
 have o5':gD g5 TO x y c:=o5
 refine wpAny_bind (wpAny_letGo (wpAny_pure ?_))
 -- the third one
 have s3:st3 k g5:=S3.keep _ _ _ h3 fun c hc o e=>by
  rcases hc with r | r
  ·rw [r] at e ⊢; exact b5.extBut _ _ D.TOi3.symm (b4.extBut _ _ D.i23.symm (b3.extBut _ _ D.TOi3.symm (b2.extBut _ _ D.i13.symm (b1.extBut _ _ D.i3z e))))
  ·rw [r] at e ⊢; exact b5.extBut _ _ (L3 (by simp)) (b4.extBut _ _ (L3 (by simp)) (b3.extBut _ _ (L3 (by simp)) (b2.extBut _ _ (L3 (by simp)) (b1.extBut _ _ (L3 (by simp)) e))))
 refine wpAny_bind (wpAny_bind (wpAny_onRaise ?_))
 refine wpAny_bind (m:=Builtin.SmallTypes.nextOf (.ref i3)) (S3.item _ k _ _ _ kn3 s3 fun v g6 pv t3 b6=>wpAny_pure ?_)
 have o6:gD g6 TO x y c:=b6.extBut _ _ D.TOi3 o5'
 refine wpAny_bind (wpAny_seqItems o6 rfl ?_)
 refine wpAny_bind (uW o6 fun g7 o7 b7=>?_)
 have o7':gD g7 TO x y v:=o7
 refine wpAny_bind (wpAny_letGo (wpAny_pure (wpAny_pure ?_)))
 refine wpAny_bind (wpAny_seqItems o7' rfl ?_)
 refine wpAny_bind (wpAny_newTuple ?_)
 have sz:g7.objs.size=s.heap.objs.size:=by rw [b7.1,b6.1,b5.1,b4.1,b3.1,b2.1,b1.1]
 have z7:IsZip g7 z TI TO .ellipsis:=b7.extBut _ _ D.TOz.symm (b6.extBut _ _ D.i3z.symm (b5.extBut _ _ D.TOz.symm (b4.extBut _ _ D.i2z.symm (b3.extBut _ _ D.TOz.symm (b2.extBut _ _ D.i1z.symm hz1')))))
 have kp7:∀ c o,c≠z->c≠TO->c≠i1->c≠i2->c≠i3->s.heap.get? c=some o->g7.get? c=some o:=fun c o c1 c2 c3 c4 c5 e =>
  b7.extBut _ _ c2 (b6.extBut _ _ c5 (b5.extBut _ _ c2 (b4.extBut _ _ c4 (b3.extBut _ _ c2 (b2.extBut _ _ c3 (b1.extBut _ _ c1 e))))))
 have t1':st1 (k+1) g7:=S1.keep _ _ _ t1 fun c hc o e=>by
  rcases hc with r | r
  ·rw [r] at e ⊢; exact b7.extBut _ _ D.TOi1.symm (b6.extBut _ _ D.i13 (b5.extBut _ _ D.TOi1.symm (b4.extBut _ _ D.i12 (b3.extBut _ _ D.TOi1.symm e))))
  ·rw [r] at e ⊢; exact b7.extBut _ _ (L1 (by simp)) (b6.extBut _ _ (L1 (by simp)) (b5.extBut _ _ (L1 (by simp)) (b4.extBut _ _ (L1 (by simp)) (b3.extBut _ _ (L1 (by simp)) e))))
 have t2':st2 (k+1) g7:=S2.keep _ _ _ t2 fun c hc o e=>by
  rcases hc with r | r
  ·rw [r] at e ⊢; exact b7.extBut _ _ D.TOi2.symm (b6.extBut _ _ D.i23 (b5.extBut _ _ D.TOi2.symm e))
  ·rw [r] at e ⊢; exact b7.extBut _ _ (L2' (by simp)) (b6.extBut _ _ (L2' (by simp)) (b5.extBut _ _ (L2' (by simp)) e))
 have t3':st3 (k+1) g7:=S3.keep _ _ _ t3 fun c hc o e=>by
  rcases hc with r | r
  ·rw [r] at e ⊢; exact b7.extBut _ _ D.TOi3.symm e
  ·rw [r] at e ⊢; exact b7.extBut _ _ (L3 (by simp)) e
 have zlt:g7.objs.size≠z:=Xj (Ql z7)
 refine wpAny_bind (m:=Builtin.SmallTypes.ownedTupleHandOut (.ref z) (.ref g7.objs.size)) ?_
 unfold Builtin.SmallTypes.ownedTupleHandOut
 have z8:IsZip (g7.push { cls:=.type "tuple",data:=.seq #[x,y,v] }) z TI TO .ellipsis:=Qa _ z7
 refine wpAny_bind (wpAny_setField_rec z8 (by simp) fun g9 z9 b9=>?_)
 have z9':IsZip g9 z TI TO (rawInt g7.objs.size):=z9
 refine wpAny_setField_rec z9' (by simp) fun g10 z10 b10=>?_
 have z10':IsZip g10 z TI TO (rawInt g7.objs.size):=z10
 have up:∀ c o,c≠z->g7.get? c=some o->g10.get? c=some o:=fun c o c1 e=>b10.extBut _ _ c1 (b9.extBut _ _ c1 (Qa _ e))
 have T10:gD g10 g7.objs.size x y v:=b10.extBut _ _ zlt (b9.extBut _ _ zlt (Qi _ rfl))
 rw [sz] at z10' T10
 refine wpAny_pure ⟨_,rfl,?_⟩
 show Q (.ref g7.objs.size) _
 rw [sz]
 refine hQ g10 x y v px py pv z10' (up _ _ D.TOz o7') (S1.keep _ _ _ t1' fun c hc o e=>up c o (by rcases hc with r | r <;> rw [r]; exact D.i1z; exact L1 (by simp)) e) (S2.keep _ _ _ t2' fun c hc o e=>up c o (by rcases hc with r | r <;> rw [r]; exact D.i2z; exact L2' (by simp)) e) (S3.keep _ _ _ t3' fun c hc o e=>up c o (by rcases hc with r | r <;> rw [r]; exact D.i3z; exact L3 (by simp)) e) T10 fun c o c1 c2 c3 c4 c5 e=>up c o c1 (kp7 c o c1 c2 c3 c4 c5 e)
theorem aDC {a b c:Value} {Q:Fin->Shared->Prop} (hh:A.handled=none) (D:Zip3Apart z TI TO i1 i2 i3 l1 l2 l3) (S1:Sub prog w i1 l1 n P1 st1)
  (hz:IsZip s.heap z TI TO .none) (hTI:gD s.heap TI (.ref i1) (.ref i2) (.ref i3)) (hTO:gD s.heap TO a b c) (h1:st1 n s.heap)
  (hE:∀ h' e,(∀ c o,c≠z->c≠TO->c≠i1->c≠i2->c≠i3->s.heap.get? c=some o->h'.get? c=some o)->(∃ o,h'.get? e=some o/\o.cls=.type "StopIteration")->E (.ref e) { s with heap:=h' }) :
  wpAny (model prog w) A (Builtin.«zip.__next__» ⟨[.ref z],[]⟩) Q E s:=by
 refine wpAny_bind (m:=field (.ref z) 2) (wpAny_field hz rfl (x:=.bool false) rfl ?_)
 refine wpAny_bind (m:=field (.ref z) 3) (wpAny_field hz rfl (x:=.ref TI) rfl ?_)
 refine wpAny_bind (wpAny_seqItems hTI rfl ?_)
 refine wpAny_bind (m:=Builtin.SmallTypes.ownedTupleIsFree (.ref z)) ?_
 unfold Builtin.SmallTypes.ownedTupleIsFree
 refine wpAny_bind (wpAny_field hz rfl (x:=.none) rfl (wpAny_pure ?_))
 simp only [if_true]
 refine wpAny_bind (wpAny_rule ?_)
 refine wpAny_bind (wpAny_field hz rfl (x:=.ref TO) rfl ?_)
 refine wpAny_bind (wpAny_setField_rec hz (by simp) fun g1 hz1 b1=>?_)
 have hz1':IsZip g1 z TI TO .ellipsis:=hz1
 refine wpAny_bind ?_
 simp only [Xy,Zc,Xl,Xt]
 have s1:st1 n g1:=S1.keep _ _ _ h1 fun c hc o e=>b1.extBut c o (by rcases hc with r | r <;> rw [r]; exact D.i1z; exact D.l1 _ (by simp)) e
 refine wpAny_bind (wpAny_bind (wpAny_onRaise ?_))
 refine wpAny_bind (m:=Builtin.SmallTypes.nextOf (.ref i1)) (S1.done _ _ _ _ hh s1 fun g2 e b2 he=>?_)
 obtain ⟨oe,hoe,hce⟩:=he
 have hzz:IsZip g2 z TI TO .ellipsis:=b2 _ _ D.i1z.symm hz1'
 have hez:e≠z:=fun q=>by rw [q,hzz] at hoe; cases hoe; simp at hce
 exact wpAny_setField_rec hzz (by simp) fun g' _ b'=>hE g' e (fun c o c1 c2 c3 c4 c5 q=>b'.extBut _ _ c1 (b2 _ _ c3 (b1.extBut _ _ c1 q))) ⟨oe,b'.extBut _ _ hez hoe,hce⟩
end
theorem qD (a b c:Value):checkTypeCall "zip" ⟨[a,b,c],[]⟩=pure ():=by kernel_rfl
theorem sO (a b c:Value):checkBuiltinCall "zip.__new__" ⟨[.type "zip",a,b,c],[]⟩=pure ():=by kernel_rfl
theorem lR (a b c d:Value):argsOk "object.__init__" ⟨[a,b,c,d],[]⟩:=by
 unfold argsOk
 kernel_rfl
def aCq (K:PySem.W.Frag) (k1 k2 k3:Sk) (a b d:Addr):It :=
 ⟨fun i H => ∃ xs ys vs x y v, SqK k1 K H a xs /\ SqK k2 K H b ys /\ SqK k3 K H d vs /\ xs[i]? = some x /\ ys[i]? = some y /\ vs[i]? = some v,
  fun i H r H'=>∃ p,H p=none/\r=.ref p/\∀ xs ys vs,SqK k1 K H a xs->SqK k2 K H b ys->SqK k3 K H d vs->∃ x y v,xs[i]?=some x/\ys[i]?=some y/\vs[i]?=some v/\H'=upd H p (.tup [x,y,v]),
  fun i H=>∃ xs ys vs,SqK k1 K H a xs/\SqK k2 K H b ys/\SqK k3 K H d vs/\xs.length=i/\ys.length=i/\vs.length=i⟩
theorem aBe {P:Program} {w:World} {K:PySem.W.Frag} {es:List Expr} {x1} {pos:Pos} (k1 k2 k3:Sk) (a b d z TI TO i1 i2 i3:Addr) (D:∀ l1 l2 l3:Addr,(∀ c∈[z,TI,TO,i1,i2,i3],l1≠c)->(∀ c∈[z,TI,TO,i1,i2,i3],l2≠c)->(∀ c∈[z,TI,TO,i1,i2,i3],l3≠c)->Zip3Apart z TI TO i1 i2 i3 l1 l2 l3) :
  Turn P w K (.Tuple es x1 pos) (aCq K k1 k2 k3 a b d) [z,TI,TO,i1,i2,i3] z (fun i h=>IsZip h z TI TO .none/\gD h TI (.ref i1) (.ref i2) (.ref i3)/\(∃ x y v,gD h TO x y v)/\ItK k1 h i1 a i/\ItK k2 h i2 b i/\ItK k3 h i3 d i) where
 mem:=by simp
 obj:=fun i h st c hc=>by
  obtain ⟨hz,hTI,⟨x,y,v,hTO⟩,h1,h2,h3⟩:=st
  simp only [Qm,Qo,or_false] at hc
  rcases hc with rfl | rfl | rfl | rfl | rfl | rfl
  ·exact ⟨_,hz,fun v q=>by cases q⟩
  ·exact ⟨_,hTI,fun v q=>by cases q⟩
  ·exact ⟨_,hTO,fun v q=>by cases q⟩
  ·exact h1.obj
  ·exact h2.obj
  ·exact h3.obj
 keep:=fun i h h' st k=>by
  obtain ⟨hz,hTI,⟨x,y,v,hTO⟩,h1,h2,h3⟩:=st
  exact ⟨k z (by simp) _ hz,k TI (by simp) _ hTI,⟨x,y,v,k TO (by simp) _ hTO⟩,h1.at fun o e=>k i1 (by simp) o e,h2.at fun o e=>k i2 (by simp) o e,h3.at fun o e=>k i3 (by simp) o e⟩
 item:=by
  intro X hP hw hK hc i pins s σ H E I hf st hg
  subst hP hw hK
  obtain ⟨hz,hTI,⟨x0,y0,v0,hTO⟩,h1,h2,h3⟩:=st
  obtain ⟨xs,ys,vs,x,y,v,ha,hb,hd,hx,hy,hv⟩:=hg
  obtain ⟨its,rva,pa⟩:=I.seqK ha
  obtain ⟨jts,rvb,pb⟩:=I.seqK hb
  obtain ⟨kts,rvd,pd⟩:=I.seqK hd
  obtain ⟨u1,hu1,ru1⟩:=rva.get hx
  obtain ⟨u2,hu2,ru2⟩:=rvb.get hy
  obtain ⟨u3,hu3,ru3⟩:=rvd.get hv
  have na:∀ c∈[z,TI,TO,i1,i2,i3],a≠c:=fun c hc'=>I.seq_ne ha (hf c hc')
  have nb:∀ c∈[z,TI,TO,i1,i2,i3],b≠c:=fun c hc'=>I.seq_ne hb (hf c hc')
  have nd:∀ c∈[z,TI,TO,i1,i2,i3],d≠c:=fun c hc'=>I.seq_ne hd (hf c hc')
  have DD:=D a b d na nb nd
  have hT:s.TypeIs (.ref z) "zip" := ⟨_,hz,rfl⟩
  have hi1:i < its.toArray.size:=by rw [Qj]; exact (Qd.mp hu1).1
  have hi2:i < jts.toArray.size:=by rw [Qj]; exact (Qd.mp hu2).1
  have hi3:i < kts.toArray.size:=by rw [Qj]; exact (Qd.mp hu3).1
  unfold pyNext
  refine wpAny_bind (wpAny_attempt (wpAny_callSpecial?_slot (name:=Str.ofString "__next__") hT PySem.F.slot_zip_next (wpAny_call_entry PySem.F.slot_zip_next hT PySem.F.entry_zip_next
   (aCp DD (mJ k1 X.prog X.w i1 a its.toArray (na i1 (by simp))) (mJ k2 X.prog X.w i2 b jts.toArray (nb i2 (by simp))) (mJ k3 X.prog X.w i3 d kts.toArray (nd i3 (by simp))) hz hTI hTO ⟨h1,pa⟩ ⟨h2,pb⟩ ⟨h3,pd⟩ hi1 hi2 hi3 fun h' w1 w2 w3 p1 p2 p3 hz' hTO' s1 s2 s3 hT' kp=>wpAny_pure ?_) (PySem.F.args_zip_next_1 _))))
  have e1:w1=u1:=by
   have q:its[i]?=some w1:=by simpa using p1
   rw [hu1] at q
   exact (Option.some.inj q).symm
  have e2:w2=u2:=by
   have q:jts[i]?=some w2:=by simpa using p2
   rw [hu2] at q
   exact (Option.some.inj q).symm
  have e3:w3=u3:=by
   have q:kts[i]?=some w3:=by simpa using p3
   rw [hu3] at q
   exact (Option.some.inj q).symm
  subst e1 e2 e3
  refine ⟨_,rfl,wpAny_letOwnedTupleGo_zip hz' fun h2 hz2 sb2=>?_⟩
  have Tz:s.heap.objs.size≠z:=Xj (Ql hz)
  have hT2:gD h2 s.heap.objs.size w1 w2 w3:=sb2.extBut _ _ Tz hT'
  have hf0:=I.hok.fresh (Qh s.heap.objs.size)
  have fz:=I.fpOk (Qh s.heap.objs.size) hf0
  have I2:Inv X pins σ H { s with heap:=h2 }:=by
   refine I.turnedL (t':=s.toks) [z,TO,i1,i2,i3] (fun c o hc' e=>?_) (fun c hc'=>hf c ?_)
   ·simp only [Qm,Qo,or_false,not_or] at hc'
    exact sb2.extBut _ _ hc'.1 (kp c o hc'.1 hc'.2.1 hc'.2.2.1 hc'.2.2.2.1 hc'.2.2.2.2 e)
   ·simp only [Qm,Qo,or_false] at hc' ⊢
    rcases hc' with r | r | r | r | r
    ·exact .inl r
    ·exact .inr (.inr (.inl r))
    ·exact .inr (.inr (.inr (.inl r)))
    ·exact .inr (.inr (.inr (.inr (.inl r))))
    ·exact .inr (.inr (.inr (.inr (.inr r))))
  have I3:Inv X pins σ (upd H s.heap.objs.size (.tup [x,y,v])) { s with heap:=h2 }:=by
   refine I2.trackO (show bW X.prog X.w _ _ _ (.tup [x,y,v]) from ⟨by show 3<=sizeLine; rw [sizeLine_eq]; decide,[w1,w2,w3],0,.cons ru1 (.cons ru2 (.cons ru3 .nil)),hT2⟩) hf0 fz.2.1 I.sz fz.2.2.2.2.1 fz.2.2.2.2.2
  refine ⟨.ref s.heap.objs.size,_,I3,rfl,⟨s.heap.objs.size,hf0,rfl,fun xs' ys' vs' ha' hb' hd'=>?_⟩,⟨hz2,sb2.extBut _ _ DD.TIz (kp _ _ DD.TIz DD.TITO DD.TIi1 DD.TIi2 DD.TIi3 hTI),⟨_,_,_,sb2.extBut _ _ DD.TOz hTO'⟩,s1.1.at fun o e=>sb2.extBut _ _ DD.i1z e,s2.1.at fun o e=>sb2.extBut _ _ DD.i2z e,s3.1.at fun o e=>sb2.extBut _ _ DD.i3z e⟩,fun c hc'=>?_⟩
  ·rw [I.seqK_inj ha' ha,I.seqK_inj hb' hb,I.seqK_inj hd' hd]
   exact ⟨x,y,v,hx,hy,hv,rfl⟩
  ·have cl:c≠s.heap.objs.size:=by
    obtain ⟨o,e⟩:∃ o,s.heap.get? c=some o:=by
     simp only [Qm,Qo,or_false] at hc'
     rcases hc' with rfl | rfl | rfl | rfl | rfl | rfl
     ·exact ⟨_,hz⟩
     ·exact ⟨_,hTI⟩
     ·exact ⟨_,hTO⟩
     ·obtain ⟨o,e,_⟩:=h1.obj; exact ⟨o,e⟩
     ·obtain ⟨o,e,_⟩:=h2.obj; exact ⟨o,e⟩
     ·obtain ⟨o,e,_⟩:=h3.obj; exact ⟨o,e⟩
    exact Je (Ql e)
   rw [aI cl]
   exact (hf c hc').1
 done:=by
  intro X hP hw hK hc i pins s σ H E I hf st hg
  subst hP hw hK
  obtain ⟨hz,hTI,⟨x0,y0,v0,hTO⟩,h1,h2,h3⟩:=st
  obtain ⟨xs,ys,vs,ha,hb,hd,l1,l2,l3⟩:=hg
  obtain ⟨its,rva,pa⟩:=I.seqK ha
  have la:=rva.length
  have na:∀ c∈[z,TI,TO,i1,i2,i3],a≠c:=fun c hc'=>I.seq_ne ha (hf c hc')
  have nb:∀ c∈[z,TI,TO,i1,i2,i3],b≠c:=fun c hc'=>I.seq_ne hb (hf c hc')
  have nd:∀ c∈[z,TI,TO,i1,i2,i3],d≠c:=fun c hc'=>I.seq_ne hd (hf c hc')
  have DD:=D a b d na nb nd
  have hT:s.TypeIs (.ref z) "zip" := ⟨_,hz,rfl⟩
  have ei:i=its.toArray.size:=by rw [Qj]; omega
  unfold pyNext
  refine wpAny_bind (wpAny_attempt (wpAny_callSpecial?_slot (name:=Str.ofString "__next__") hT PySem.F.slot_zip_next (wpAny_call_entry PySem.F.slot_zip_next hT PySem.F.entry_zip_next
   (aDC (I.ok.hd hc) DD (mJ k1 X.prog X.w i1 a its.toArray (na i1 (by simp))) hz hTI hTO (by rw [<- ei]; exact ⟨h1,pa⟩) fun h' e kp he=>?_) (PySem.F.args_zip_next_1 _))))
  obtain ⟨oe,hoe,hce⟩:=he
  refine wpAny_bind (wpAny_isInstance (T := "StopIteration") (b:=true) ⟨oe,hoe,hce⟩ isSubtype_stop (wpAny_pure ⟨rfl,?_⟩))
  refine I.turnedL (t':=s.toks) [z,TO,i1,i2,i3] (fun c o hc' e=>?_) (fun c hc'=>hf c ?_)
  ·simp only [Qm,Qo,or_false,not_or] at hc'
   exact kp c o hc'.1 hc'.2.1 hc'.2.2.1 hc'.2.2.2.1 hc'.2.2.2.2 e
  ·simp only [Qm,Qo,or_false] at hc' ⊢
   rcases hc' with r | r | r | r | r
   ·exact .inl r
   ·exact .inr (.inr (.inl r))
   ·exact .inr (.inr (.inr (.inl r)))
   ·exact .inr (.inr (.inr (.inr (.inl r))))
   ·exact .inr (.inr (.inr (.inr (.inr r))))
 self:=fun _ _ _ _ _ st h=>wpAny_pyIter_zip st.1 h
section
variable (k1 k2 k3:Sk) (h:Heap) (a b d:Addr)
abbrev yh1:Heap:=h.push (itK k1 a)
abbrev yh2:Heap:=(yh1 k1 h a).push (itK k2 b)
abbrev yh3:Heap:=(yh2 k1 k2 h a b).push (itK k3 d)
abbrev yh4:Heap:=(yh3 k1 k2 k3 h a b d).push { cls:=.type "tuple",data:=.seq #[.ref h.objs.size,.ref (yh1 k1 h a).objs.size,.ref (yh2 k1 k2 h a b).objs.size] }
abbrev yh5:Heap:=(yh4 k1 k2 k3 h a b d).push { cls:=.type "tuple",data:=.seq #[.none,.none,.none] }
abbrev yh6:Heap:=(yh5 k1 k2 k3 h a b d).push { cls:=.type "zip",data:=.fields #[.none,.bool false,.bool false,.ref (yh3 k1 k2 k3 h a b d).objs.size,.ref (yh4 k1 k2 k3 h a b d).objs.size] }
end
set_option maxHeartbeats 4000000 in
theorem aBf (k1 k2 k3:Sk) (a b d:Addr) (xs ys vs:Array Value) :
  Meets (Builtin.«zip.__new__» ⟨[.type "zip",.ref a,.ref b,.ref d],[]⟩) (fun _ R s=>AtK k1 s.heap a xs/\AtK k2 s.heap b ys/\AtK k3 s.heap d vs/\R (.ok (.ret (.ref (yh5 k1 k2 k3 s.heap a b d).objs.size))) { s with heap:=yh6 k1 k2 k3 s.heap a b d }) :=
 .of_wp fun prog w A R s h=>by
  obtain ⟨hp,g,dd,tk,os⟩:=s
  obtain ⟨hl1,hl2,hl3,h⟩:=h
  have hsub:=sub_zip
  have hA:AtK k1 (Shared.heap ⟨hp,g,dd,tk,os⟩) a xs:=hl1
  have hB:AtK k2 (Shared.heap ⟨hp.push (itK k1 a),g,dd,tk,os⟩) b ys:=AtK.at hl2 fun o e=>Qa _ e
  have hC:AtK k3 (Shared.heap ⟨(hp.push (itK k1 a)).push (itK k2 b),g,dd,tk,os⟩) d vs:=AtK.at hl3 fun o e=>Qa _ (Qa _ e)
  wp_walk using oK hA,oK hB,oK hC
  exact ⟨_,rfl,h⟩
section
variable {X:Cx} {es:List Expr} {x1:Nat} {tpos:Pos}
def aFB (K:PySem.W.Frag) (k1 k2 k3:Sk) (ta:TA):TI:=fun σ H R=>ta σ H fun vs H1=>∃ a b d xs ys zs,vs = [.ref a,.ref b,.ref d]/\SqK k1 K H1 a xs/\SqK k2 K H1 b ys/\SqK k3 K H1 d zs/\R (aCq K k1 k2 k3 a b d) H1
theorem aFC {x y z:V} {us:List Value} (r:bG [x,y,z] us):∃ u v t,us = [u,v,t]/\bM x u/\bM y v/\bM z t:=by
 cases r with
 | cons r1 q =>
  obtain ⟨v,t,rfl,r2,r3⟩:=kE q
  exact ⟨_,v,t,rfl,r1,r2,r3⟩
set_option maxHeartbeats 4000000 in
theorem aDD (k1 k2 k3:Sk) {a b d:Expr} {ta:TA} {p pos:Pos} (hg:Gl X "zip") (hm:X.mg "zip" = none) (ha:PA X [a,b,d] ta) (hs:starEach [a,b,d] X.env = [(false,eval a X.env),(false,eval b X.env),(false,eval d X.env)]:=by rfl) (hs2:starEach [b,d] X.env = [(false,eval b X.env),(false,eval d X.env)]:=by rfl) :
  PI X (.Tuple es x1 tpos) (.Call (.Name "zip" p) [a,b,d] [] pos) (aFB X.K k1 k2 k3 ta):=by
 intro pins s σ H R I h
 refine Call_ (hJ (u:=.type "zip") I hg hm (by decide +kernel) (PyProof.Rows.callWith_type1 (thn (ha pos pins s σ H _ I h) fun us s1 hx9=>?_) (by rw [hs,hs2]) (by rw [hs2]; rfl)))
 obtain ⟨vs,H1,I1,r1,q1⟩:=hx9
 obtain ⟨l1,l2,l3,xs,ys,zs,rfl,hA,hB,hC,q⟩:=q1
 obtain ⟨u1,u2,u3,rfl,r1',r2',r3'⟩:=aFC r1
 cases r1'
 cases r2'
 cases r3'
 obtain ⟨its,rva,pa⟩:=I1.seqK hA
 obtain ⟨jts,rvb,pb⟩:=I1.seqK hB
 obtain ⟨kts,rvc,pc⟩:=I1.seqK hC
 refine callType_new PySem.F.called_zip (by decide) (qD _ _ _) (sO _ _ _) (fun obj=>lR obj _ _ _) PySem.F.entry_zip_new (aBf k1 k2 k3 l1 l2 l3 its.toArray jts.toArray kts.toArray) ⟨pa,pb,pc,?_⟩
 have n1:(yh1 k1 s1.heap l1).objs.size=s1.heap.objs.size+1:=Jg ..
 have n2:(yh2 k1 k2 s1.heap l1 l2).objs.size=s1.heap.objs.size+2:=by rw [Jg,n1]
 have n3:(yh3 k1 k2 k3 s1.heap l1 l2 l3).objs.size=s1.heap.objs.size+3:=by rw [Jg,n2]
 have n4:(yh4 k1 k2 k3 s1.heap l1 l2 l3).objs.size=s1.heap.objs.size+4:=by rw [Jg,n3]
 have n5:(yh5 k1 k2 k3 s1.heap l1 l2 l3).objs.size=s1.heap.objs.size+5:=by rw [Jg,n4]
 have g6:IsZip (yh6 k1 k2 k3 s1.heap l1 l2 l3) (yh5 k1 k2 k3 s1.heap l1 l2 l3).objs.size (yh3 k1 k2 k3 s1.heap l1 l2 l3).objs.size (yh4 k1 k2 k3 s1.heap l1 l2 l3).objs.size .none:=Qi _ rfl
 have g5:gD (yh6 k1 k2 k3 s1.heap l1 l2 l3) (yh4 k1 k2 k3 s1.heap l1 l2 l3).objs.size .none .none .none:=Qa _ (Qi _ rfl)
 have g4:gD (yh6 k1 k2 k3 s1.heap l1 l2 l3) (yh3 k1 k2 k3 s1.heap l1 l2 l3).objs.size (.ref s1.heap.objs.size) (.ref (yh1 k1 s1.heap l1).objs.size) (.ref (yh2 k1 k2 s1.heap l1 l2).objs.size):=Qa _ (Qa _ (Qi _ rfl))
 have g3:ItK k3 (yh6 k1 k2 k3 s1.heap l1 l2 l3) (yh2 k1 k2 s1.heap l1 l2).objs.size l3 0:=(ItK.new k3 (yh2 k1 k2 s1.heap l1 l2) l3).at fun o e=>Qa _ (Qa _ (Qa _ e))
 have g2:ItK k2 (yh6 k1 k2 k3 s1.heap l1 l2 l3) (yh1 k1 s1.heap l1).objs.size l2 0:=(ItK.new k2 (yh1 k1 s1.heap l1) l2).at fun o e=>Qa _ (Qa _ (Qa _ (Qa _ e)))
 have g1:ItK k1 (yh6 k1 k2 k3 s1.heap l1 l2 l3) s1.heap.objs.size l1 0:=(ItK.new k1 s1.heap l1).at fun o e=>Qa _ (Qa _ (Qa _ (Qa _ (Qa _ e))))
 have kp:∀ c o,s1.heap.get? c=some o->(yh6 k1 k2 k3 s1.heap l1 l2 l3).get? c=some o:=fun c o e=>Qa _ (Qa _ (Qa _ (Qa _ (Qa _ (Qa _ e)))))
 refine ⟨⟨_,g6,rfl⟩,wpAny_pyIter_zip (f0:=.none) g6 ?_⟩
 rw [n1,n2,n3,n4,n5] at *
 have I2:Inv X pins σ H1 { s1 with heap:=yh6 k1 k2 k3 s1.heap l1 l2 l3 }:=I1.kept (t':=s1.toks) kp
 refine ⟨s1.heap.objs.size+5,[s1.heap.objs.size+5,s1.heap.objs.size+3,s1.heap.objs.size+4,s1.heap.objs.size,s1.heap.objs.size+1,s1.heap.objs.size+2],_,_,H1,rfl,I2,aBe k1 k2 k3 l1 l2 l3 _ _ _ _ _ _ ?_,⟨g6,g4,⟨_,_,_,g5⟩,g1,g2,g3⟩,fun c hc=>?_,q⟩
 ·intro m1 m2 m3 h1 h2 h3
  have d:∀ i j:Nat,i≠j->s1.heap.objs.size+i≠s1.heap.objs.size+j:=fun i j h=>by omega
  have sub:∀ {l:Addr},(∀ c∈[s1.heap.objs.size+5,s1.heap.objs.size+3,s1.heap.objs.size+4,s1.heap.objs.size,s1.heap.objs.size+1,s1.heap.objs.size+2],l≠c)->∀ c∈[s1.heap.objs.size+5,s1.heap.objs.size+4,s1.heap.objs.size,s1.heap.objs.size+1,s1.heap.objs.size+2],l≠c:=fun h c hc=>h c (by
   rcases Qm.mp hc with r | r
   ·exact Qm.mpr (.inl r)
   ·exact Qr _ (Qr _ r))
  exact ⟨d 3 5 (by decide),d 4 5 (by decide),d 0 5 (by decide),d 1 5 (by decide),d 2 5 (by decide),d 3 4 (by decide),d 3 0 (by decide),d 3 1 (by decide),d 3 2 (by decide),d 4 0 (by decide),d 4 1 (by decide),d 4 2 (by decide),d 0 1 (by decide),d 0 2 (by decide),d 1 2 (by decide),sub h1,sub h2,sub h3⟩
 ·have hc':s1.heap.objs.size<=c:=by
   simp only [Qm,Qo,or_false] at hc
   rcases hc with r | r | r | r | r | r
   ·rw [r]; exact Jx _ _
   ·rw [r]; exact Jx _ _
   ·rw [r]; exact Jx _ _
   ·rw [r]; exact Qh _
   ·rw [r]; exact Jx _ _
   ·rw [r]; exact Jx _ _
  exact I1.fpOk hc' (I1.hok.fresh hc')
end
section
variable {K:PySem.W.Frag} {own:Nat} {fr:List Nat} {g:TG} {te:TE} {σ:St} {H:Hp} {Qf:Hp->List V->Prop}
theorem aBg {k1 k2:Sk} {a b:Addr} {xs zs vs:List V} (SH:St->Prop) (hn:zs.length<=1000) (hle:zs.length<=xs.length) (hl:vs.length=zs.length) (ha:∀ H',aE H H'->SqK k1 K H' a xs/\SqK k2 K H' b zs) (hσ:SH (blk own fr σ))
  (hs:∀ (i:Nat) x z v p σ H1,xs[i]?=some x->zs[i]?=some z->vs[i]?=some v->H1 p=none->SH σ->aE H H1->∀ Q:V->St->Hp->Prop,(∀ σ2 H4,SH σ2->aE H1 H4->Q v σ2 H4)->g (.ref p) σ (upd H1 p (.tup [x,z])) fun σ2 H2=>te σ2 H2 fun y H4=>Q y σ2 H4)
  (hd:∀ H',aE H H'->Qf H' vs) :
  ∃ W:Nat->Nat->List V->St->Hp->Prop,(∃ m,W 0 m [] (blk own fr σ) H)/\∀ i m ys σ' H,W i m ys σ' H ->
   ((Itz K k1 k2 a b).stop i H/\Qf H ys) ∨
   ((Itz K k1 k2 a b).go i H/\∃ N:List V->St->Hp->Prop,(∀ ys' σ2 H2,N ys' σ2 H2->∃ m',m' < m/\W (i+1) m' ys' σ2 H2) /\
    ∀ x H',(Itz K k1 k2 a b).yld i H x H'->g x σ' H' fun σ2 H2=>uG σ2 H2 fun b H3=>if b=true then te σ2 H3 fun y H4=>ys.length < sizeLine/\N (ys++[y]) σ2 H4 else N ys σ2 H3):=by
 refine mO SH hn hl hσ (fun H' s=>⟨xs,zs,(ha H' s).1,(ha H' s).2,by omega⟩) (fun i H' hi s=>⟨xs,zs,xs[i]'(by omega),zs[i],(ha H' s).1,(ha H' s).2,Qc (by omega),Qc hi⟩) (fun i v x σ H1 H2 hi hv sh s y Q k=>?_) hd
 obtain ⟨q,hq,rfl,hy⟩:=y
 obtain ⟨x,z,h1,h2,rfl⟩:=hy xs zs (ha H1 s).1 (ha H1 s).2
 exact hs i x z v q σ H1 h1 h2 hv hq sh s Q k
theorem aBh {k1 k2 k3:Sk} {a b d:Addr} {xs zs us vs:List V} (SH:St->Prop) (hn:xs.length<=1000) (h2:zs.length=xs.length) (h3:us.length=xs.length) (hl:vs.length=xs.length) (ha:∀ H',aE H H'->SqK k1 K H' a xs/\SqK k2 K H' b zs/\SqK k3 K H' d us) (hσ:SH (blk own fr σ))
  (hs:∀ (i:Nat) x z u v p σ H1,xs[i]?=some x->zs[i]?=some z->us[i]?=some u->vs[i]?=some v->H1 p=none->SH σ->aE H H1->∀ Q:V->St->Hp->Prop,(∀ σ2 H4,SH σ2->aE H1 H4->Q v σ2 H4)->g (.ref p) σ (upd H1 p (.tup [x,z,u])) fun σ2 H2=>te σ2 H2 fun y H4=>Q y σ2 H4)
  (hd:∀ H',aE H H'->Qf H' vs) :
  ∃ W:Nat->Nat->List V->St->Hp->Prop,(∃ m,W 0 m [] (blk own fr σ) H)/\∀ i m ys σ' H,W i m ys σ' H ->
   ((aCq K k1 k2 k3 a b d).stop i H/\Qf H ys) ∨
   ((aCq K k1 k2 k3 a b d).go i H/\∃ N:List V->St->Hp->Prop,(∀ ys' σ2 H2,N ys' σ2 H2->∃ m',m' < m/\W (i+1) m' ys' σ2 H2) /\
    ∀ x H',(aCq K k1 k2 k3 a b d).yld i H x H'->g x σ' H' fun σ2 H2=>uG σ2 H2 fun b H3=>if b=true then te σ2 H3 fun y H4=>ys.length < sizeLine/\N (ys++[y]) σ2 H4 else N ys σ2 H3):=by
 refine mO SH hn hl hσ (fun H' s=>⟨xs,zs,us,(ha H' s).1,(ha H' s).2.1,(ha H' s).2.2,rfl,h2,h3⟩) (fun i H' hi s=>⟨xs,zs,us,xs[i],zs[i]'(by omega),us[i]'(by omega),(ha H' s).1,(ha H' s).2.1,(ha H' s).2.2,Qc hi,Qc (by omega),Qc (by omega)⟩) (fun i v x σ H1 H2 hi hv sh s y Q k=>?_) hd
 obtain ⟨q,hq,rfl,hy⟩:=y
 obtain ⟨x,z,u,e1,e2,e3,rfl⟩:=hy xs zs us (ha H1 s).1 (ha H1 s).2.1 (ha H1 s).2.2
 exact hs i x z u v q σ H1 e1 e2 e3 hv hq sh s Q k
end
section
variable {X:Cx} {K:PySem.W.Frag}
theorem aBi (hK:X.K=K):MtR X "list.count" (fun x vs H Q=>∃ (a:Addr) (ns:List Int) (n:Int),x=.ref a/\vs = [.int n]/\SqL K H a (ns.map V.int)/\Q (.int (ns.count n:Nat)) H):=by
 subst hK
 intro pins s σ H x v vs us Q I rx r h
 obtain ⟨a,ns,n,rfl,rfl,ha,q⟩:=h
 obtain ⟨u,rfl,t,rfl⟩:=gB r
 cases rx
 obtain ⟨its,rv,⟨⟨cls,dd,data,sl⟩,k,ho,hc,hdd,hd⟩,hzz⟩:=I.list ha
 simp only at hc hd
 subst hc hd
 have hi:IntsAre its ns:=eY rv
 refine call_meets PySem.F.slot_list_count ⟨_,ho,rfl⟩ PySem.F.entry_list_count (PySem.F.args_list_count_2 _ _) (SeqAt.list_countAt a its.toArray k dd sl (.int n t) (isInt n)) ⟨ho,fun y hy=>(eq_isInt n t hi y (by simpa using hy)).at _ _,?_⟩
 have e:(its.toArray.toList.countP (isInt n))=ns.count n:=by
  simp only [Wl]
  clear q r ha rv ho hzz hdd
  induction hi with
  | nil=>rfl
  | cons m t' _ ih =>
   rw [List.countP_cons,Xo,ih]
   rfl
 rw [e]
 exact ⟨.int _,H,I.tok _,⟨_,rfl⟩,q⟩
theorem aBj (hc:X.calm=true):eI X (.builtin "sum") (fun xs H Q=>∃ (p:Addr) (ns:List Int),xs = [.ref p]/\SqT X.K H p (ns.map V.int)/\(∀ n∈ns,0<=n/\n < 1000000)/\ns.length<=1000000/\Q (.int (aM ns)) H):=by
 intro pins s σ H xs us Q I r h
 obtain ⟨p,ns,rfl,hx,hb,hlen,q⟩:=h
 obtain ⟨u,rfl,rx⟩:=gB r
 cases rx
 obtain ⟨its,rv,pl,hz⟩:=I.tuple hx
 have hl:=rv.length
 rw [Qb] at hl
 have hlt:p < s.heap.objs.size:=by obtain ⟨o,e,_⟩:=pl; exact Ql e
 have hval:∀ (i:Nat) (v:Int),ns[i]?=some v->(ns[i]?).getD 0=v:=fun i v e=>by rw [e]; rfl
 have bnd:∀ (ms:List Int),(∀ n∈ms,0<=n/\n < 1000000)->0<=aM ms/\aM ms<=ms.length*1000000:=fun ms=>by
  induction ms with
  | nil=>intro _; exact ⟨Jq _,Jq _⟩
  | cons a l ih =>
   intro hh
   have h1:=hh a Qq
   have h2:=ih fun n hn=>hh n (Qr _ hn)
   have e:aM (a::l)=a+aM l:=rfl
   rw [e,Jv]
   rw [Xn]
   omega
 refine call_sum_walk (wpAny_pyIter_tuple pl ?_)
 refine ⟨s.heap.objs.size,_,_,_,_,_,fun i=>(ns[i]?).getD 0,rfl,Walks.tuple (A:=X.A.in1) (I.ok.hd hc) s.heap.objs.size p (Je hlt) its.toArray,⟨⟨_,Qi _ rfl,rfl,rfl⟩,pl.push _⟩,?_,?_,?_,fun h' tk t' hk=>?_⟩
 ·intro b hb'
  rw [Jg]
  rcases Qm.mp hb' with e | e
  ·rw [e]; exact Zj _
  ·have e':b=p:=by simpa using e
   rw [e']; exact Jy hlt
 ·intro i v hP
  have hP':its[i]?=some v:=by simpa using hP
  have hi:i < ns.length:=by rw [hl]; exact (Qd.mp hP').1
  obtain ⟨w,hw,rw'⟩:=rv.get (i:=i) (x:=.int ns[i]) (by rw [Qg,Qc hi]; rfl)
  rw [hw] at hP'
  cases hP'
  obtain ⟨t,rfl⟩:=rw'
  exact ⟨t,by show Value.int ns[i] t=Value.int ((ns[i]?).getD 0) t; rw [Qc hi]; rfl⟩
 ·intro j hj
  have hj':j < ns.length:=by rw [hl]; simpa using hj
  have e:ns[j]?=some ns[j]:=Qc hj'
  have h1:=hb _ (Xg hj')
  have h2:=bnd (ns.take (j+1)) fun n hn=>hb n (Xb hn)
  rw [gX ns _ hval (j+1) (by omega)]
  have h3:(ns.take (j+1)).length<=1000000:=by rw [Ja]; omega
  unfold InLong
  have e5:(fun i:Nat=>(ns[i]?).getD 0) j=ns[j]:=by show (ns[j]?).getD 0=_; rw [e]; rfl
  rw [e5]
  have h4:((ns.take (j+1)).length:Int)*1000000<=1000000*1000000:=by omega
  omega
 ·have e:preSum (fun i=>(ns[i]?).getD 0) its.toArray.size=aM ns:=by
   rw [Qj,<- hl,gX ns _ hval ns.length (Qh _),Js]
  rw [e]
  refine ⟨.int _,H,I.kept (h':=h') fun b o e=>hk b o ?_ (Qa _ e),⟨_,rfl⟩,q⟩
  intro z
  have z':b=s.heap.objs.size:=by simpa using z
  exact Jb _ (z' ▸ Ql e)
theorem qE (hK:X.K=K) (hc:X.calm=true):eI X (.builtin "sum") (fun xs H Q=>∃ (p:Addr) (ns:List Int),xs = [.ref p]/\SqT K H p (ns.map V.int)/\(∀ n∈ns,0<=n/\n < 1000000)/\ns.length<=1000000/\Q (.int (aM ns)) H):=by subst hK; exact aBj hc
end
theorem uX {prog:Program} {w:World} {A:Around} {R:Result->Shared->Prop} {s:Shared} {kx vx target iter:Expr} {ifs:List Expr} {scope:Scope} {pos:Pos} {it:Value} {D:Addr} {env:Env} (I:Nat->Shared->Prop)
  (turn:∀ n s,I n s->wpAny (model prog w) A (pyNext it) (fun r s₁=>match r with
   | none=>R (.ok .next) s₁
   | some v=>wpAny (model prog w) A (letOwnedTupleGo target it v) (fun _ s₁'=>wpAny (model prog w) A (assign target env v) (fun _ s₂ =>
     wpAny (model prog w) A (forIn ifs true fun c r=>if r=true then do let ok<-isTrue c env (eval c env); pure (ForInStep.yield ok) else pure (ForInStep.yield r)) (fun ok s₃ =>
      if ok=true then wpAny (model prog w) A (eval kx env) (fun kv s₄=>wpAny (model prog w) A (eval vx env) (fun vv s₅ =>
       wpAny (model prog w) A (dictSet D kv vv) (fun _ s₆=>∃ m,m < n/\I m s₆) (fun _ _=>False) s₅) (fun _ _=>False) s₄) (fun _ _=>False) s₃
      else ∃ m,m < n/\I m s₃) (fun _ _=>False) s₂) (fun _ _=>False) s₁') (fun _ _=>False) s₁) (fun _ _=>False) s)
  (n:Nat) (h:I n s) :
  codeAny (model prog w) A (.compLoop (.DictComp kx vx [⟨target,iter,ifs,0⟩] scope pos) 0 it (.ref D) env) R s:=by
 refine codeAny_loop rfl I (fun n s hI=>?_) n h
 show wpAny _ A ((compTurn (.DictComp kx vx [⟨target,iter,ifs,0⟩] scope pos) 0 it (.ref D) env).onRaise (fun x=>do noteFrame x env; theTreesLotGoes x)) _ _ s
 refine wpAny_noted ?_
 rw [compTurn_dict]
 refine wpAny_bind (wpAny_standAt (wpAny_bind (wpAny_mono (turn n s hI) (fun r s₁ h₁=>?_) fun _ _ h'=>h'.elim)))
 cases r with
 | none=>exact wpAny_pure h₁
 | some v =>
  refine wpAny_bind (wpAny_mono h₁ (fun _ s₁' h₁'=>?_) fun _ _ h'=>h'.elim)
  refine wpAny_bind (wpAny_mono h₁' (fun _ s₂ h₂=>wpAny_bind (wpAny_mono h₂ (fun ok s₃ h₃=>?_) fun _ _ h'=>h'.elim)) fun _ _ h'=>h'.elim)
  cases ok with
  | false=>exact wpAny_pure ⟨rfl,h₃⟩
  | true =>
   exact wpAny_bind (wpAny_bind (wpAny_mono h₃ (fun kv s₄ h₄=>wpAny_bind (wpAny_holding (wpAny_mono h₄ (fun vv s₅ h₅=>wpAny_bind (wpAny_standAt (wpAny_holding (wpAny_mono h₅ (fun _ s₆ h₆=>wpAny_pure ⟨rfl,h₆⟩) fun _ _ h'=>h'.elim)))) fun _ _ h'=>h'.elim))) fun _ _ h'=>h'.elim))
def aEF (own:Nat) (fr:List Nat) (wi:TI) (g:TG) (tt:TT) (tk tv:TE):TE:=fun σ H Q=>wi σ H fun J H1=>∃ W:Nat->Nat->List (Key×V)->St->Hp->Prop,(∃ m,W 0 m [] (blk own fr σ) H1)/\∀ i m ys σ' H,W i m ys σ' H ->
 (J.stop i H/\∀ p,H p=none->Q (.ref p) (upd H p (.dK ys))) ∨
 (J.go i H/\∃ N:List (Key×V)->St->Hp->Prop,(∀ ys' σ2 H2,N ys' σ2 H2->∃ m',m' < m/\W (i+1) m' ys' σ2 H2) /\
  ∀ x H',J.yld i H x H'->g x σ' H' fun σ2 H2=>tt σ2 H2 fun b H3=>if b=true then tk σ2 H3 fun x H4=>tv σ2 H4 fun y H5=>∃ k,x=kV k/\ys.length < sizeLine/\N (hV ys k y) σ2 H5 else N ys σ2 H3)
section
variable {X:Cx} {scope:Scope} {own frn:List Str} {fr:List Nat} {kx vx tg iter:Expr} {ifs:List Expr} {pos:Pos} {wi:TI} {g:TG} {tt:TT} {tk tv:TE}
theorem Inv.trackD {pins:List (Addr×Obj)} {σ:St} {H:Hp} {s:Shared} {D:Addr} {ys:List (Key×V)} {its:List (Key×Value)} (I:Inv X pins σ H s) (hD:s.heap.DictOf (bP X.prog X.w) D its) (hv:KV ys its) (hz:ys.length<=sizeLine) (hm:(D==sysModules)=false) (hn:H D=none) (hL:D≠X.env.locals)
  (h1:X.s₀.heap.objs.size<=D) (h2:∀ x c,X.env.cells.lookup x=some c->c≠D) (h3:∀ p∈X.pn++pins,p.1≠D):Inv X pins σ (upd H D (.dK ys)) s:=by
 have ne:∀ b u,H b=some u->b≠D:=fun b u e z=>by rw [z,hn] at e; cases e
 refine I.step (g':=s.gens) (d':=s.drawn) (t':=s.toks) (h':=s.heap) (ch:=[D]) (fun b hb=>?_) (fun b o _ _ _ e _=>e) (fun b o _ _ _ e _=>⟨o.slots,e⟩) (fun b o hc _ n=>?_) (fun b o _ e=>⟨o,e⟩)
  (fun b xs e=>by rw [aI (ne b _ e)]; exact e) (fun b o u e=>by rw [aI (ne b _ e)]; exact e) (fun b ps e=>⟨#[],by rw [aI (ne b _ e),e]; simp⟩) (fun _ h=>h) (fun b u e=>?_) I.bare
 ·have e:b=D:=by simpa using hb
  subst e
  exact ⟨.inr h1,hL,h2,h3⟩
 ·rw [aI (by simpa using hc)]; exact n
 ·by_cases hb:b=D
  ·subst hb
   rw [aC] at e; cases e
   exact ⟨hz,hm,its,hv,hD⟩
  ·rw [aI hb] at e
   exact (I.hok b u e).stay (fun c v _ q=>q) (fun c q=>by rw [aI (ne c _ q)]; exact q) fun c xs q=>by rw [aI (ne c _ q)]; exact q
theorem wO {pins:List (Addr×Obj)} {σ:St} {H2:Hp} {s2:Shared} {it:Addr} {fp:List Addr} {tn:Nat->Heap->Prop} {J:It} {RR:Value->Addr->Result->Shared->Prop} {E:Value->Shared->Prop} {Q:Hp->List (Key×V)->Prop}
  (S:CompOk X scope own fr frn) (hc:X.calm=true) (I2:Inv X pins σ H2 s2) (T:Turn X.prog X.w X.K tg J fp it tn) (st2:tn 0 s2.heap) (f2:∀ b∈fp,kC X pins H2 b)
  (hg:∀ C s0 H0 fp,PG (aR X scope (own++frn) C s0 H0 fp) tg g) (ht:∀ C s0 H0 fp,PF (aR X scope (own++frn) C s0 H0 fp) ifs tt) (hk:∀ C s0 H0 fp,PE (aR X scope (own++frn) C s0 H0 fp) kx tk) (he:∀ C s0 H0 fp,PE (aR X scope (own++frn) C s0 H0 fp) vx tv)
  (w:∃ W:Nat->Nat->List (Key×V)->St->Hp->Prop,(∃ m,W 0 m [] (blk own.length fr σ) H2)/\∀ i m ys σ' H,W i m ys σ' H ->
   (J.stop i H/\Q H ys) ∨
   (J.go i H/\∃ N:List (Key×V)->St->Hp->Prop,(∀ ys' σ2 H2,N ys' σ2 H2->∃ m',m' < m/\W (i+1) m' ys' σ2 H2) /\
    ∀ x H',J.yld i H x H'->g x σ' H' fun σ2 H2=>tt σ2 H2 fun b H3=>if b=true then tk σ2 H3 fun x H4=>tv σ2 H4 fun y H5=>∃ k,x=kV k/\ys.length < sizeLine/\N (hV ys k y) σ2 H5 else N ys σ2 H3))
  (hRR:∀ (C D:Addr) (s':Shared) (H':Hp) (ys:List (Key×V)) (its:List (Key×Value)) (m:Str->Option Value),s2.heap.objs.size<=C->s2.heap.objs.size<=D->D≠C->s'.heap.Ns C m->H' C=none->H' D=none->s'.heap.DictOf (bP X.prog X.w) D its->KV ys its->ys.length<=sizeLine ->
   Inv X pins σ H' s'->Q H' ys->RR (.ref D) C (.ok .next) s') :
  wpAny (model X.prog X.w) X.A newDict (fun acc s₃=>wpAny (model X.prog X.w) X.A (newFunctionEnv scope X.env.globals (cY X.env scope.names []) [] X.env.qual none .none (some X.env)) (fun cenv s₄ =>
   codeAny (model X.prog X.w) X.A (.compStart (.DictComp kx vx [⟨tg,iter,ifs,0⟩] scope pos) 0 (.ref it) acc { cenv with scope:=relabel scope X.env }) (RR acc cenv.locals) s₄) E s₃) E s2:=by
 obtain ⟨p1,p2,p3,p4,p5,p6,p7⟩:=S.parts
 obtain ⟨W,⟨m0,w0⟩,turn⟩:=w
 refine wpAny_newObj_type (wpAny_newFunctionEnv p2 (by intro y hy; simp at hy) (fun h₁ hns₁ hsb₁=>?_) p1)
 dsimp only at hns₁ hsb₁ ⊢
 generalize hH2:s2.heap.push { cls:=.type "dict",dict:=none,data:=.dict #[] }=HD at hns₁ hsb₁ ⊢
 have hCs:HD.objs.size=s2.heap.objs.size+1:=by rw [<- hH2,Jg]
 have hDC:s2.heap.objs.size≠HD.objs.size:=by omega
 have hCle:s2.heap.objs.size<=HD.objs.size:=by omega
 have below:∀ b,b < s2.heap.objs.size->b≠HD.objs.size/\b≠s2.heap.objs.size:=fun b hb=>⟨by omega,by omega⟩
 have old:∀ b o,s2.heap.get? b=some o->h₁.get? b=some o:=fun b o e=>hsb₁.extBut b o (below b (Ql e)).1 (Qa _ (hH2 ▸ Qa _ e))
 have hacc:h₁.get? s2.heap.objs.size=some { cls:=.type "dict",dict:=none,data:=.dict #[] }:=hsb₁.extBut _ _ hDC (Qa _ (hH2 ▸ Qi _ rfl))
 have hdict:h₁.DictOf (bP X.prog X.w) s2.heap.objs.size []:=Heap.DictOf.at (hH2 ▸ Heap.DictOf.new s2.heap:HD.DictOf (bP X.prog X.w) s2.heap.objs.size []) fun o e=>hsb₁.extBut _ _ hDC (Qa _ e)
 have flt:∀ b∈fp,b < s2.heap.objs.size:=fun b hb=>by
  obtain ⟨o,e,_⟩:=T.obj _ _ st2 b hb
  exact Ql e
 generalize hDg:s2.heap.objs.size=D at *
 generalize hCg:HD.objs.size=C at *
 have st3:tn 0 h₁:=T.keep _ _ _ st2 fun b _ o e=>old b o e
 -- facts of the block
 have clsub:∀ x c,(cY X.env scope.names []).lookup x=some c->X.env.cells.lookup x=some c:=fun x c e=>by
  rcases iI _ _ _ _ (fP e) with q | q
  ·cases q
  ·exact q
 have cD:∀ x c,(cY X.env scope.names []).lookup x=some c->c≠D:=fun x c e z=>by
  obtain ⟨v,q⟩:=I2.cell x c (clsub x c e)
  exact Jb _ (Qp q.lt (by rw [hDg,z]; exact Qh _))
 have loop:∀ s₃:Shared,s₃={ s2 with heap:=h₁,toks:=s2.toks+([]:List (Str×Value)).length } ->
   codeAny (model X.prog X.w) X.A (.compLoop (.DictComp kx vx [⟨tg,iter,ifs,0⟩] scope pos) 0 (.ref it) (.ref D) (compEnvC scope (cY X.env scope.names []) C X.env)) (RR (.ref D) C) s₃:=by
  rintro s₃ rfl
  have I3:Inv (aR X scope (own++frn) C s2 H2 fp) [(D,_)] (blk own.length fr σ) H2 { s2 with heap:=h₁,toks:=s2.toks+([]:List (Str×Value)).length } :=
   pP (m:=fun _=>none) I2 S f2 (by rw [hDg]; exact flt) (by rw [hDg]; exact hCle) (hns₁:h₁.Ns C _) old (by rw [hDg]; exact Qh _) hDC hacc (fun v z=>by cases z)
  have stat:∀ {H':Hp} {pl:List (Addr×Obj)},(∀ p∈pl,p.1=D)->(∀ b∈fp,H' b=none)->∀ b∈fp,kC (aR X scope (own++frn) C s2 H2 fp) pl H' b:=fun {H' pl} hpl hn b hb=>by
   refine ⟨hn b hb,(below b (flt b hb)).1,fun z=>?_,.inl hb,fun x c e=>(f2 b hb).2.2.2.2.1 x c (clsub x c e),fun p hp=>?_⟩
   ·have z':b∈frs X.stack:=z
    rcases Qm.mp (I2.stkSub b z') with e | e
    ·exact (f2 b hb).2.1 e
    ·exact (f2 b hb).2.2.1 e
   ·have hp':p∈pl:=by simpa [aR] using hp
    rw [hpl p hp']
    exact Ne.symm (below b (flt b hb)).2
  refine uX (env:=compEnvC scope (cY X.env scope.names []) C X.env) (fun n s'=>∃ i σ' H' ys its o,Inv (aR X scope (own++frn) C s2 H2 fp) [(D,o)] σ' H' s'/\s'.heap.DictOf (bP X.prog X.w) D its/\KV ys its/\ys.length<=sizeLine/\tn i s'.heap/\(∀ b∈fp,H' b=none)/\W i n ys σ' H') ?_ m0
   ⟨0,_,H2,[],[],_,I3,hdict,.nil,Jo _,st3,fun b hb=>(f2 b hb).1,w0⟩
  rintro n s5 ⟨i,σ5,H5,ys,its,o,I5,pl5,v5,z5,st5,fr5,w5⟩
  have one:∀ {o:Obj},∀ p∈[(D,o)],p.1=D:=fun p hp=>by
   have e:=Qu.mp hp
   rw [e]
  rcases turn i n ys σ5 H5 w5 with ⟨stop,qn⟩ | ⟨go,N,hN,step⟩
  ·refine wpAny_mono (T.done (aR X scope (own++frn) C s2 H2 fp) rfl rfl rfl hc i _ s5 σ5 H5 (fun _ _=>False) I5 (stat one fr5) st5 stop) (fun r s6 hx9=>?_) fun _ _ z=>z
   obtain ⟨hr,I6⟩:=hx9
   subst hr
   obtain ⟨m6,hn6,_⟩:=I6.loc
   have p6:=I6.pin (D,o) (by simp [aR])
   have p5':=I5.pin (D,o) (by simp [aR])
   have pl6:s6.heap.DictOf (bP X.prog X.w) D its:=pl5.at fun o' e=>p6.1.trans (p5'.1.symm.trans e)
   have IX:Inv X pins σ H5 s6:=I2.call' (ch:=fp) I6.os I6.base I6.hok I6.bare fun b hb=>⟨(f2 b hb).2.2.2.1,(f2 b hb).2.1,(f2 b hb).2.2.2.2.1,(f2 b hb).2.2.2.2.2⟩
   exact hRR C D s6 H5 ys its m6 hCle (Qh _) hDC hn6 I6.free p6.2.1 pl6 v5 z5 IX qn
  ·refine wpAny_mono (T.item (aR X scope (own++frn) C s2 H2 fp) rfl rfl rfl hc i _ s5 σ5 H5 (fun _ _=>False) I5 (stat one fr5) st5 go) (fun r s6 hx9=>?_) fun _ _ z=>z
   obtain ⟨u,hr,h6⟩:=hx9
   subst hr
   refine wpAny_mono h6 (fun _ s7 hx9=>?_) fun _ _ z=>z
   obtain ⟨x,H7,I7,r7,y7,st7,fr7⟩:=hx9
   have I7':=I7.pinned (stat one fr7) (T.obj _ _ st7)
   refine wpAny_mono (hg C s2 H2 fp _ s7 σ5 H7 x u _ I7' r7 (step x H7 y7)) (fun _ s8 hx9=>?_) fun _ _ z=>z
   obtain ⟨σ8,H8,I8,q8⟩:=hx9
   refine wpAny_mono (ht C s2 H2 fp _ s8 σ8 H8 _ I8 q8) (fun b s9 hx9=>?_) fun _ _ z=>z
   obtain ⟨H9,I9,q9⟩:=hx9
   -- what stands of the iterator and of the gathered list behind the tests,behind the item
   have keepT:∀ {H':Hp} {s':Shared} {σ':St},Inv (aR X scope (own++frn) C s2 H2 fp) ([(D,o)]++kD fp s7.heap) σ' H' s'->tn (i+1) s'.heap/\(∀ b∈fp,H' b=none)/\s'.heap.DictOf (bP X.prog X.w) D its/\H' D=none:=fun {H' s' σ'} I'=>by
    refine ⟨T.keep _ _ _ st7 fun b hb o e=>(I'.pin (b,o) (Qt _ (Qt _ (cX hb e)))).1,fun b hb=>?_,?_,?_⟩
    ·obtain ⟨o,e,d⟩:=T.obj _ _ st7 b hb
     exact (I'.pin (b,o) (Qt _ (Qt _ (cX hb e)))).2.1
    ·have p':=I'.pin (D,o) (by simp [aR])
     have p5':=I5.pin (D,o) (by simp [aR])
     exact pl5.at fun o' e=>p'.1.trans (p5'.1.symm.trans e)
    ·exact (I'.pin (D,o) (by simp [aR])).2.1
   cases b with
   | false =>
    rw [if_neg Qv] at q9
    rw [if_neg Qv]
    obtain ⟨m',hm,w'⟩:=hN ys σ8 H9 q9
    obtain ⟨t9,fr9,pl9,_⟩:=keepT I9
    exact ⟨m',hm,i+1,σ8,H9,ys,its,o,I9.unpinned,pl9,v5,z5,t9,fr9,w'⟩
   | true =>
    rw [if_pos rfl] at q9
    rw [if_pos rfl]
    refine wpAny_mono (hk C s2 H2 fp _ s9 σ8 H9 _ I9 q9) (fun kv s9' hx9=>?_) fun _ _ z=>z
    obtain ⟨xv,H9',I9',r9,q9'⟩:=hx9
    refine wpAny_mono (he C s2 H2 fp _ s9' σ8 H9' _ I9' q9') (fun y s10 hx9=>?_) fun _ _ z=>z
    obtain ⟨yv,H10,I10,r10,k10,ek,lt10,q10⟩:=hx9
    subst ek
    obtain ⟨t10,fr10,pl10,hD10⟩:=keepT I10
    have hl:=v5.length
    refine wpAny_dictSet_pairs (knd:=bP X.prog X.w) (tG r9) pl10 (fun h11 pl11 sb11=>?_) (by rw [<- hl]; exact Zn lt10)
    obtain ⟨m',hm,w'⟩:=hN _ σ8 H10 q10
    have I10':Inv (aR X scope (own++frn) C s2 H2 fp) [] σ8 H10 s10:=I10.pins_of fun p hp=>by cases hp
    have I11:Inv (aR X scope (own++frn) C s2 H2 fp) [] σ8 H10 { s10 with heap:=h11,toks:=s10.toks+1 } :=
     I10'.turned (t':=s10.toks+1) (it:=D) (fun b o hb e=>(sb11.2 b hb).trans e) hD10 hDC (.inr (by show s2.heap.objs.size<=D; rw [hDg]; exact Qh _)) cD (fun p hp=>by simp [aR] at hp)
    obtain ⟨o11,es11,ep11,ho11,hc11,hd11,_⟩:=id pl11
    have DfsX:D∉frs X.stack:=fun z=>by
     rcases Qm.mp (I2.stkSub D z) with e | e
     ·exact Jb _ (Qp I2.lt (by rw [hDg,e]; exact Qh _))
     ·exact I2.nofs (by rw [hDg]; exact Qh _) e
    refine ⟨m',hm,i+1,σ8,H10,hV ys k10 yv,stored its k10 y,o11,I11.pins_of fun p hp=>?_,pl11,v5.put k10 r10,Qz (fU _ _ _) lt10,T.keep _ _ _ t10 fun b hb o e=>(sb11.2 b (below b (flt b hb)).2).trans e,fr10,w'⟩
    have e:=Qu.mp hp
    subst e
    exact ⟨ho11,hD10,hDC,DfsX,fun v z=>by rw [hd11] at z; cases z⟩
 exact codeAny_compStart_dict (loop _ rfl) (T.self X.A 0 _ _ _ st3 (loop _ rfl))
theorem aCr (S:CompOk X scope own fr frn) (hc:X.calm=true) (hi:PI X tg iter wi) (hg:∀ C s0 H0 fp,PG (aR X scope (own++frn) C s0 H0 fp) tg g) (ht:∀ C s0 H0 fp,PF (aR X scope (own++frn) C s0 H0 fp) ifs tt)
  (hk:∀ C s0 H0 fp,PE (aR X scope (own++frn) C s0 H0 fp) kx tk) (he:∀ C s0 H0 fp,PE (aR X scope (own++frn) C s0 H0 fp) vx tv) (hs:∀ x,foldedSetIterable iter X.env x=pure x:=by intro _; rfl) :
  PE X (.DictComp kx vx [⟨tg,iter,ifs,0⟩] scope pos) (aEF own.length fr wi g tt tk tv):=by
 intro pins s σ H Q I h
 obtain ⟨p1,p2,p3,p4,p5,p6,p7⟩:=S.parts
 rw [arm_eval_DictComp]
 refine wpAny_comprehension_free (use:=none) rfl hs (S.clo I) p1 p3 (thn (hi pins s σ H _ I h) fun v s1 h1=>thn h1 fun itv s2 h2=>?_)
 obtain ⟨it,fp,tn,J,H2,e,I2,T,st2,f2,hw⟩:=h2
 subst e
 refine wO (RR:=fun acc C=>compPost (model X.prog X.w) X.A X.xe none (EP X pins σ Q) acc C) (Q:=fun H ys=>∀ p,H p=none->Q (.ref p) (upd H p (.dK ys))) S hc I2 T st2 f2 hg ht hk he hw ?_
 intro C D s' H' ys its m hC hD hDC hns hHC hHD pl v z IX q
 have cne:∀ a,s2.heap.objs.size<=a->∀ x c,X.env.cells.lookup x=some c->c≠a:=fun a ha x c e z=>by
  obtain ⟨v,w⟩:=I2.cell x c e
  exact Jb _ (Qp w.lt (by rw [z]; exact ha))
 have pne:∀ a,s2.heap.objs.size<=a->∀ p∈X.pn++pins,p.1≠a:=fun a ha p hp z=>Jb _ (Qp (Ql (I2.pin p hp).1) (by rw [z]; exact ha))
 have lne:∀ a,s2.heap.objs.size<=a->a≠X.env.locals:=fun a ha z=>Jb _ (Qp I2.lt (by rw [<- z]; exact ha))
 refine ⟨m,hns,fun h' hs'=>⟨.ref D,upd H' D (.dK ys),?_,rfl,q D hHD⟩⟩
 have IT:Inv X pins σ (upd H' D (.dK ys)) s':=IX.trackD pl v z (beq_eq_false_iff_ne.mpr fun e=>Jb _ (Qp I2.big (by rw [<- e]; exact hD))) hHD (lne D hD) (Qz I2.sz hD) (cne D hD) (pne D hD)
 exact IT.turned (t':=s'.toks) (it:=C) (fun b o hb e=>(hs'.2 b hb).trans e) (by rw [aI (Ne.symm hDC)]; exact hHC) (lne C hC) (.inr (Qz I2.sz hC)) (cne C hC) (pne C hC)
end
def tUp (t:TE):TE:=fun σ H Q=>∃ P:V->Hp->Prop,t σ H P/\∀ x H1,P x H1->Q x H1
def aEG (H0:Hp) (t:TE):TE:=fun σ H Q=>t σ H fun x H'=>∃ a o kvs,H' a=some (.frz o (.dK kvs))/\NF H0 a/\Q x (upd H' a (.dK kvs))
def aEH (own:Nat) (fr:List Nat) (td:TE) (g:TG) (tt:TT) (te:TE):TE:=fun σ H Q=>td σ H fun x H1=>∃ a kvs,x=.ref a/\H1 a=some (.dK kvs)/\∀ o:Obj,∃ W:Nat->Nat->List V->St->Hp->Prop,(∃ m,W 0 m [] (blk own fr σ) (upd H1 a (.frz o (.dK kvs))))/\∀ i m ys σ' H,W i m ys σ' H ->
 ((Itd a o kvs).stop i H/\∀ p,H p=none->Q (.ref p) (upd (upd H p (.lst ys)) a (.dK kvs))) ∨
 ((Itd a o kvs).go i H/\∃ N:List V->St->Hp->Prop,(∀ ys' σ2 H2,N ys' σ2 H2->∃ m',m' < m/\W (i+1) m' ys' σ2 H2) /\
  ∀ x H',(Itd a o kvs).yld i H x H'->g x σ' H' fun σ2 H2=>tt σ2 H2 fun b H3=>if b=true then te σ2 H3 fun y H4=>ys.length < sizeLine/\N (ys++[y]) σ2 H4 else N ys σ2 H3)
section
variable {X:Cx} {scope:Scope} {own frn:List Str} {fr:List Nat} {e elt tg d:Expr} {ifs:List Expr} {pos:Pos} {t td:TE} {g:TG} {tt:TT} {te:TE}
theorem aFD (h:PE X e t):PE X e (tUp t):=by
 intro pins s σ H Q I q
 obtain ⟨P,h1,h2⟩:=q
 refine thn (h pins s σ H P I h1) fun v s1 hx=>?_
 obtain ⟨x,H1,I1,r1,q1⟩:=hx
 exact ⟨x,H1,I1,r1,h2 _ _ q1⟩
theorem aDE (h:PE X e t):PE X e (aEG X.H₀ t):=by
 intro pins s σ H Q I q
 refine thn (h pins s σ H _ I q) fun v s1 hx=>?_
 obtain ⟨x,H1,I1,r1,a,o,kvs,ea,nf,k⟩:=hx
 exact ⟨x,_,I1.thaw ea nf,r1,k⟩
theorem wP (S:CompOk X scope own fr frn) (hc:X.calm=true) (hi:PE X d td) (hg:∀ C s0 H0 fp,PG (aR X scope (own++frn) C s0 H0 fp) tg g) (ht:∀ C s0 H0 fp,PF (aR X scope (own++frn) C s0 H0 fp) ifs tt)
  (he:∀ C s0 H0 fp,PE (aR X scope (own++frn) C s0 H0 fp) elt te) (hs:∀ x,foldedSetIterable d X.env x=pure x:=by intro _; rfl) :
  PE X (.ListComp elt [⟨tg,d,ifs,0⟩] scope pos) (aEH own.length fr td g tt te):=by
 intro pins s σ H Q I h
 refine aDE (bR S hc (aAh (aFD hi)) hg ht he hs) pins s σ H Q I ⟨_,h,fun x H1 q=>?_⟩
 obtain ⟨a,kvs,ex,hx,k⟩:=q
 refine ⟨a,kvs,ex,hx,fun o nf=>?_⟩
 obtain ⟨W,w0,wk⟩:=k o
 refine ⟨W,w0,fun i m ys σ' H' w=>?_⟩
 rcases wk i m ys σ' H' w with ⟨st,q⟩ | z
 ·refine .inl ⟨st,fun p hp=>⟨a,o,kvs,?_,nf,q p hp⟩⟩
  rw [aI (fun z=>by rw [<- z,st.1] at hp; cases hp)]
  exact st.1
 ·exact .inr z
end
theorem tJ {a:Addr} {o:Obj} {kvs:List (Key×V)} {own:Nat} {fr:List Nat} {g:TG} {tt:TT} {te:TE} {σ:St} {H:Hp} {Q:Hp->List V->Prop} (SH:St->Prop) (Pv:Nat->List V->Hp->Prop) (hn:kvs.length<=sizeLine) (hσ:SH (blk own fr σ)) (h0:Pv 0 [] H) (hlen:∀ i ys H,Pv i ys H->ys.length<=i) (hl:∀ i ys H,Pv i ys H->H a=some (.frz o (.dK kvs)))
  (hs:∀ i ys σ p H,kvs[i]?=some p->SH σ->Pv i ys H->ys.length < sizeLine->g (kV p.1) σ H fun σ2 H2=>tt σ2 H2 fun b H3=>if b=true then te σ2 H3 fun y H4=>ys.length < sizeLine/\SH σ2/\Pv (i+1) (ys++[y]) H4 else SH σ2/\Pv (i+1) ys H3)
  (hd:∀ ys H,Pv kvs.length ys H->Q H ys) :
  ∃ W:Nat->Nat->List V->St->Hp->Prop,(∃ m,W 0 m [] (blk own fr σ) H)/\∀ i m ys σ' H,W i m ys σ' H ->
   ((Itd a o kvs).stop i H/\Q H ys) ∨
   ((Itd a o kvs).go i H/\∃ N:List V->St->Hp->Prop,(∀ ys' σ2 H2,N ys' σ2 H2->∃ m',m' < m/\W (i+1) m' ys' σ2 H2) /\
    ∀ x H',(Itd a o kvs).yld i H x H'->g x σ' H' fun σ2 H2=>tt σ2 H2 fun b H3=>if b=true then te σ2 H3 fun y H4=>ys.length < sizeLine/\N (ys++[y]) σ2 H4 else N ys σ2 H3):=by
 refine kY kvs.length hn SH Pv hσ h0 hlen (fun ys H p=>⟨hl _ _ _ p,rfl⟩) (fun i ys H hi p=>⟨hl _ _ _ p,hi⟩) (fun i ys σ x H H' hi sh p y hz=>?_) hd
 obtain ⟨rfl,v,hv,rfl⟩:=y
 exact hs i ys σ v _ hv sh p hz
theorem aBk {K:PySem.W.Frag} {a:Addr} {xs:List V} {own:Nat} {fr:List Nat} {g:TG} {tt:TT} {tk tv:TE} {σ:St} {H:Hp} {Q:Hp->List (Key×V)->Prop} (SH:St->Prop) (Pv:Nat->List (Key×V)->Hp->Prop) (hn:xs.length<=sizeLine) (hσ:SH (blk own fr σ)) (h0:Pv 0 [] H) (hlen:∀ i ys H,Pv i ys H->ys.length<=i) (hl:∀ i ys H,Pv i ys H->SqT K H a xs)
  (hs:∀ i ys σ x H,xs[i]?=some x->SH σ->Pv i ys H->ys.length < sizeLine->g x σ H fun σ2 H2=>tt σ2 H2 fun b H3=>if b=true then tk σ2 H3 fun x H4=>tv σ2 H4 fun y H5=>∃ k,x=kV k/\ys.length < sizeLine/\SH σ2/\Pv (i+1) (hV ys k y) H5 else SH σ2/\Pv (i+1) ys H3)
  (hd:∀ ys H,Pv xs.length ys H->Q H ys) :
  ∃ W:Nat->Nat->List (Key×V)->St->Hp->Prop,(∃ m,W 0 m [] (blk own fr σ) H)/\∀ i m ys σ' H,W i m ys σ' H ->
   ((Itt K a).stop i H/\Q H ys) ∨
   ((Itt K a).go i H/\∃ N:List (Key×V)->St->Hp->Prop,(∀ ys' σ2 H2,N ys' σ2 H2->∃ m',m' < m/\W (i+1) m' ys' σ2 H2) /\
    ∀ x H',(Itt K a).yld i H x H'->g x σ' H' fun σ2 H2=>tt σ2 H2 fun b H3=>if b=true then tk σ2 H3 fun x H4=>tv σ2 H4 fun y H5=>∃ k,x=kV k/\ys.length < sizeLine/\N (hV ys k y) σ2 H5 else N ys σ2 H3):=by
 refine ⟨fun i m ys σ' H=>m=xs.length - i/\i<=xs.length/\SH σ'/\Pv i ys H,⟨xs.length,by simp,Jo _,hσ,h0⟩,?_⟩
 rintro i m ys σ' H ⟨rfl,hi,sh,p⟩
 by_cases hlt:i < xs.length
 ·refine .inr ⟨⟨xs,xs[i],hl _ _ _ p,Qc hlt⟩,fun ys' σ2 H2=>SH σ2/\Pv (i+1) ys' H2,fun ys' σ2 H2 q=>⟨xs.length - (i+1),by omega,rfl,hlt,q.1,q.2⟩,fun x H' y=>?_⟩
  obtain ⟨e,y⟩:=y
  subst e
  exact hs i ys σ' x _ (y xs (hl _ _ _ p)) sh p (by have:=hlen i ys _ p; omega)
 ·have e:i=xs.length:=by omega
  subst e
  exact .inl ⟨⟨xs,hl _ _ _ p,Qh _⟩,hd ys H p⟩
section
variable {X:Cx}
theorem aEI:OpR X (compareOp .Is) (fun x y H Q=>∃ b c,x=.bl b/\y=.bl c/\Q (.bl (decide (b=c))) H):=by
 intro pins s σ H x y v u Q I rx ry h
 obtain ⟨b,c,rfl,rfl,q⟩:=h
 cases rx
 cases ry
 refine is_bool (bX I q ?_)
 cases b <;> cases c <;> rfl
theorem qF:eI X (.builtin "repr") (fun xs H Q=>∃ i:Int,xs = [.int i]/\(PyData.int i).showable=true/\Q (.str (PyData.int i).shown) H):=by
 intro pins s σ H xs us Q I r h
 obtain ⟨i,rfl,h3,q⟩:=h
 obtain ⟨u,rfl,rx⟩:=gB r
 obtain ⟨t,rfl⟩:=rx
 exact PySem.P.repr_of_int (by unfold PyData.showable at h3; exact of_decide_eq_true h3) ⟨.str _,H,I.tok _,⟨_,rfl⟩,q⟩
theorem qG {i:Int} (h0:0<=i) (h1:i < 1000000):(PyData.int i).showable=true:=by
 unfold PyData.showable
 refine decide_eq_true ?_
 have h2:i.natAbs < 2^20:=by omega
 rcases Ym i.natAbs with h | h
 ·rw [h]; decide
 ·have:=(Nat.log2_lt (by omega)).mpr h2
  omega
theorem uY:eI X (.type "range") (fun xs H Q=>∃ i j,xs = [.int i,.int j]/\∀ p,H p=none->Q (.ref p) (upd H p (.rng i j))):=by
 intro pins s σ H xs us Q I r h
 obtain ⟨i,j,rfl,q⟩:=h
 obtain ⟨u,u2,rfl,⟨t,rfl⟩,⟨t2,rfl⟩⟩:=kE r
 refine call_range_2 ⟨.ref s.heap.objs.size,_,I.laid (fun b o e=>Qa _ e) (Qh _) ?_,rfl,q _ (I.hok.fresh (Qh _))⟩
 exact ⟨_,_,_,Qi _ rfl⟩
def mS (i:Int) (n:Nat):List Int:=(List.range n).map fun (j:Nat)=>i+(j:Int)
theorem oX (hc:X.calm=true):eI X (.type "tuple") (fun xs H Q=>∃ (a:Addr) (n:Nat),xs = [.ref a]/\H a=some (.rng 1 (1+n))/\n<=1000/\∀ p H',aE H H'->SqT X.K H' p ((mS 1 n).map V.int)->Q (.ref p) H'):=by
 intro pins s σ H xs us Q I r h
 obtain ⟨a,n,rfl,ha,hn,q⟩:=h
 obtain ⟨u,rfl,rx⟩:=gB r
 cases rx
 obtain ⟨t,u,v,e⟩:=I.hok a _ ha
 have hsz:Builtin.Range.rangeSize 1 (1+(n:Int)) 1=(n:Int):=by rw [rangeSize_one]; split <;> omega
 have hsm:Builtin.Range.small 1 (1+(n:Int)) 1=true:=small_one (by omega) (by omega) (by omega) (by omega)
 have hn24:n<=2^24:=Qz hn (by decide)
 refine callType_new PySem.F.called_tuple (by decide) (PySem.F.typeCall_tuple_1 _) (PySem.F.newCall_tuple_1 _) (fun obj=>PySem.F.args_object_init_2 obj _) PySem.F.entry_tuple_new
  (jZ a 1 (1+n) t u v n hsm hsz hn24) ⟨I.ok.hd hc,e,fun h' tk vs kp hi=>⟨⟨_,Qi _ rfl,rfl⟩,?_⟩⟩
 have I1:Inv X pins σ H { s with heap:=h',toks:=tk }:=I.kept kp
 have hv:=kX hi
 have hl:(mS 1 n).length=n:=by unfold mS; simp
 have hf:=I1.hok.fresh (Qh _)
 have I2:Inv X pins σ (upd H h'.objs.size (.tup ((mS 1 n).map V.int))) { s with heap:=h'.push { cls:=.type "tuple",data:=.seq vs.toArray },toks:=tk } :=
  I1.laid (t':=tk) (fun b o e=>Qa _ e) (Qh _) (show bW X.prog X.w _ _ _ (.tup _) from ⟨by rw [Qb,hl,sizeLine_eq]; omega,vs,0,hv,Qi _ rfl⟩)
 exact ⟨.ref h'.objs.size,_,I2,rfl,q _ _ (aE.new hf) (SqT.of aC)⟩
end
structure Fn (K:PySem.W.Frag) (mg:Str->Option Value) (x:Str) (st:Stmt) (ps:List Str) (f:Addr) (fd:FuncData):Prop where
 fn:Fun K x x st f fd
 mgx:mg x=some (.ref f)
 kp:PySem.W.keepIn K (.ref f)=true
 bd:sV K fd ps []
theorem aT {X:Cx} {x:Str} {st:Stmt} {ps:List Str} {f:Addr} {fd:FuncData} {k:Nat} {sp:Sp} {p pos:Pos} {e:Expr} {es:List Expr} {t:TA} (G:Fn X.K X.mg x st ps f fd) (ok:FnOk X.prog X.w X.K X.mg X.base CX0 k f fd ps sp) (hr:Room k X.A) (hg:Gl X x) (ha:PA X (e::es) t)
  (hdb:(x==("__debug__" : Str))=false:=by decide) (he:starEach (e::es) X.env=(false,eval e X.env)::starEach es X.env:=by rfl) (hpl:(backTo pos (starEach es X.env)).any (·.1)=false:=by rfl) :
  PE X (.Call (.Name x p) (e::es) [] pos) (aD6 sp [] E0 t):=aDe ok hr hg G.mgx G.kp G.bd .nil aFm ha hdb he hpl
structure Bl (mg:Str->Option Value):Prop where
 isinstance:mg "isinstance" = none
 int:mg "int" = none
 bool:mg "bool" = none
 tuple:mg "tuple" = none
 list:mg "list" = none
 len:mg "len" = none
 all:mg "all" = none
 zip:mg "zip" = none
 range:mg "range" = none
 sorted:mg "sorted" = none
 set:mg "set" = none
 sum:mg "sum" = none
 repr:mg "repr" = none
 enumerate:mg "enumerate" = none
 min:mg "min" = none
 any:mg "any" = none
 max:mg "max" = none
 hands:∃ t,mg "MOST_HANDS" = some (.int 6 t)
 works:∃ t,mg "MOST_WORKS" = some (.int 12 t)
 mc:∃ t,mg "MOST_COST" = some (.int 999 t)
theorem iA:bootBuiltins "isinstance" = some (.builtin "isinstance"):=by decide +kernel
theorem aEc:bootBuiltins "int" = some (.type "int"):=by decide +kernel
theorem aCs:bootBuiltins "bool" = some (.type "bool"):=by decide +kernel
theorem bV:bootBuiltins "tuple" = some (.type "tuple"):=by decide +kernel
theorem uZ:bootBuiltins "list" = some (.type "list"):=by decide +kernel
theorem cU:bootBuiltins "len" = some (.builtin "len"):=by decide +kernel
theorem kK:bootBuiltins "all" = some (.builtin "all"):=by decide +kernel
theorem aDF:bootBuiltins "range" = some (.type "range"):=by decide +kernel
theorem aCt:bootBuiltins "sorted" = some (.builtin "sorted"):=by decide +kernel
theorem aFE:bootBuiltins "set" = some (.type "set"):=by decide +kernel
theorem wQ:bootBuiltins "sum" = some (.builtin "sum"):=by decide +kernel
theorem aCu:bootBuiltins "repr" = some (.builtin "repr"):=by decide +kernel
end L2
namespace Ab
open PySem L2
def top (i:Nat):Stmt:=PySem.Challenge.pw_ablehands_k32_cheapest_deals.main.body.getD i (.Pass ⟨0,0,0,0⟩)
abbrev lT:Stmt:=top 9
abbrev qH:Stmt:=top 10
abbrev qI:Stmt:=top 11
abbrev qJ:Stmt:=top 12
abbrev vA:Stmt:=top 13
abbrev yP:Stmt:=top 14
abbrev yQ:Stmt:=top 15
abbrev eP:Stmt:=top 17
abbrev yR:Stmt:=top 18
abbrev mT:Stmt:=top 19
abbrev qK:Stmt:=top 20
abbrev gE:Stmt:=top 22
abbrev iW:Stmt:=top 23
abbrev qL:Stmt:=top 24
abbrev iX:Stmt:=top 25
abbrev iY:Stmt:=top 28
abbrev iZ:Stmt:=top 29
abbrev nV:Stmt:=top 30
abbrev kZ:Stmt:=top 31
abbrev tK:Stmt:=top 32
abbrev oY:Stmt:=top 33
abbrev nW:Stmt:=top 34
abbrev mU:Stmt:=top 35
abbrev lU:Stmt:=top 36
abbrev tL:Stmt:=top 38
abbrev yS:Stmt:=top 39
abbrev vB:Stmt:=top 40
abbrev aAl:Stmt:=top 41
abbrev aCv:Stmt:=top 43
abbrev jA:Stmt:=top 44
abbrev kL:Stmt:=top 45
abbrev aAm:Stmt:=top 47
abbrev aAn:Stmt:=top 48
abbrev lA:Stmt:=top 49
abbrev oZ:Stmt:=top 50
abbrev qM:Stmt:=top 51
abbrev mV:Stmt:=top 52
abbrev qN:Stmt:=top 53
abbrev mW:Stmt:=top 54
abbrev qO:Stmt:=top 55
abbrev mX:Stmt:=top 56
abbrev lB:Stmt:=top 57
abbrev aCw:Stmt:=top 58
def gU:PyData->Bool
 | .int _=>true
 | _=>false
def iL:PyData->Bool
 | .int i=>decide (1<=i) && decide (i<=6)
 | _=>false
def eG (hands:Int):Int->List PyData->Bool
 | _,[]=>true
 | last,.int i::r=>decide (last < i) && decide (i < hands) && eG hands i r
 | _,_::_=>false
def cP (hands:Int):PyData->Bool
 | .tuple ds=>!ds.isEmpty && eG hands (-1) ds
 | _=>false
def aEJ:PyData->PyData->Bool
 | .int h,.tuple ws=>decide (1<=h) && decide (h<=6) && decide (ws.length<=12) && ws.all (cP h)
 | _,_=>false
def cG:PyData->Bool
 | .tuple [dh,dw]=>aEJ dh dw
 | _=>false
section
variable {P:Program} {w:World} {K:PySem.W.Frag} {mg:Str->Option Value} {base:Heap}
def jO (K:PySem.W.Frag):Sp:=fun vs H Q _=>∃ x d,vs = [x]/\Den K H d x/\Q (.bl (gU d)) H
theorem aDG:FnScope ["thing"] ["thing"] (aF lT):=⟨rfl,rfl,rfl,by decide +kernel,rfl,by decide +kernel,by decide +kernel⟩
theorem jB {f:Addr} {fd:FuncData} (G:Fn K mg "is_whole" lT ["thing"] f fd) (B:Bl mg):FnOk P w K mg base CX0 1 f fd ["thing"] (jO K):=by
 refine G.fn.ok aDG (fun vs H Q E h=>?_) (fun cdv A outer s H vs Q E hr h=>?_)
 ·obtain ⟨x,d,rfl,_⟩:=h
  rfl
 ·obtain ⟨x,d,rfl,hd,k⟩:=h
  refine ⟨_,aG (aO (jI (aK mH rfl B.isinstance iA (aA (pv 0) (aA (dO (v:=.ty "int") rfl B.int aEc rfl) aB)))
   (jH (aBJ (aK lK rfl B.isinstance iA (aA (pv 0) (aA (dO (v:=.ty "bool") rfl B.bool aCs rfl) aB))))))),?_⟩
  refine ⟨_,rfl,x,jY d,rfl,hd.kd,_,rfl,?_⟩
  refine eK (fun c=>?_) (fun c=>?_)
  ·refine ⟨_,rfl,x,jY d,rfl,hd.kd,_,rfl,?_⟩
   have e:(!decide (jY d=Kd.bl))=gU d:=by
    cases d <;> first | rfl | (exfalso; simp [jY] at c)
   rw [e]
   exact k
  ·have e:false=gU d:=by
    cases d <;> first | rfl | (exfalso; simp [jY] at c)
   rw [e]
   exact k
def aAo (K:PySem.W.Frag):Sp:=fun vs H Q _=>∃ x d,vs = [x]/\Den K H d x/\Q (.bl (iL d)) H
theorem aDH:FnScope ["thing"] ["thing"] (aF qH):=⟨rfl,rfl,rfl,by decide +kernel,rfl,by decide +kernel,by decide +kernel⟩
theorem aCx {f fW:Addr} {fd fdW:FuncData} (G:Fn K mg "are_hands" qH ["thing"] f fd) (B:Bl mg) (W:Fn K mg "is_whole" lT ["thing"] fW fdW):FnOk P w K mg base CX0 2 f fd ["thing"] (aAo K):=by
 have GW:FnOk P w K mg base CX0 1 fW fdW ["thing"] (jO K):=jB W B
 obtain ⟨t6,h6⟩:=B.hands
 refine G.fn.ok aDH (fun vs H Q E h=>?_) (fun cdv A outer s H vs Q E hr h=>?_)
 ·obtain ⟨x,d,rfl,_⟩:=h
  rfl
 ·obtain ⟨x,d,rfl,hd,k⟩:=h
  refine ⟨_,aG (aO (jI (aT W GW hr rfl (aA (pv 0) aB))
   (jH (vQ mC mC aJ (pv 0) (uB (v:=.int 6) rfl h6 ⟨t6,rfl⟩))))),?_⟩
  refine ⟨_,rfl,x,d,rfl,hd,_,rfl,?_⟩
  refine eK (fun c=>?_) (fun c=>?_)
  ·obtain ⟨i,rfl⟩:∃ i,d=.int i:=by cases d <;> first | exact ⟨_,rfl⟩ | (exfalso; simp [gU] at c)
   obtain rfl:=eJ.mp hd
   refine ⟨_,rfl,_,_,rfl,rfl,_,rfl,?_⟩
   refine eK (fun c1=>?_) (fun c1=>?_)
   ·refine ⟨_,_,rfl,rfl,?_⟩
    have e:decide (i<=6)=iL (.int i):=by
     show _=(decide (1<=i) && decide (i<=6))
     rw [c1,Xe]
    show Q (.bl (decide (i<=6))) H
    rw [e]; exact k
   ·have e:false=iL (.int i):=by
     show _=(decide (1<=i) && decide (i<=6))
     have c2:decide (1<=i)=false:=by simpa using c1
     rw [c2,Wh]
    rw [e]; exact k
  ·have e:false=iL d:=by cases d <;> first | rfl | (exfalso; simp [gU] at c)
   rw [e]; exact k
theorem hX (h l i:Int) (r:List PyData):eG h l (.int i::r)=(decide (l < i) && decide (i < h) && eG h i r):=by rw [eG]
theorem qP (h l:Int) (d:PyData) (r:List PyData) (n:gU d=false):eG h l (d::r)=false:=by
 cases d <;> first | rfl | (simp [gU] at n)
def aAp (K:PySem.W.Frag):Sp:=fun vs H Q _=>∃ n x d,vs = [.int n,x]/\Den K H d x/\Q (.bl (cP n d)) H
theorem pA:FnScope ["hands", "thing", "last", "hand"] ["hands", "thing"] (aF qI):=⟨rfl,rfl,rfl,by decide +kernel,rfl,by decide +kernel,by decide +kernel⟩
theorem aCy {f fW:Addr} {fd fdW:FuncData} (G:Fn K mg "is_work" qI ["hands", "thing"] f fd) (B:Bl mg) (W:Fn K mg "is_whole" lT ["thing"] fW fdW):FnOk P w K mg base CX0 2 f fd ["hands", "thing"] (aAp K):=by
 have GW:FnOk P w K mg base CX0 1 fW fdW ["thing"] (jO K):=jB W B
 refine G.fn.ok pA (fun vs H Q E h=>?_) (fun cdv A outer s H vs Q E hr h=>?_)
 ·obtain ⟨n,x,d,rfl,_⟩:=h
  rfl
 ·obtain ⟨n,x,d,rfl,hd,k⟩:=h
  refine ⟨_,aD (bT (PW.pt (gA (cF (cJ (aK bN rfl B.isinstance iA (aA (pv 1) (aA (dO (v:=.ty "tuple") rfl B.tuple bV rfl) aB)))))
    (eT (bB lI (aK aS rfl B.len cU (aA (pv 1) aB)) aJ (bE _))))) (aG (aO cE)) aW)
   (aD (aY (i:=2) pA.nd rfl (Or.inl rfl) (sU nO aJ))
   (aD (dZ PassesOwn.never rfl (eL (pv 1)) (aH (i:=3) pA.nd rfl (Or.inl rfl))
    (aD (bT (PW.pt (gA (cF (cJ (aT W GW hr rfl (aA (pv 3) aB)))) (gA (bB mC (pv 3) (pv 2) (bE _)) (eT (bB aD4 (pv 3) (pv 0) (bE _)))))) (aG (aO cE)) aW)
    (aG (aY (i:=2) pA.nd rfl (Or.inl rfl) (pv 3)))))
   (aG (aO cE)))),?_⟩
  refine ⟨_,rfl,x,jY d,rfl,hd.kd,_,rfl,?_⟩
  refine eK (fun c=>?_) (fun c=>?_)
  ·-- not a tuple
   refine gQ ?_
   have e:false=cP n d:=by
    cases d <;> first | rfl | (exfalso; simp [jY] at c)
   rw [e]; exact k
  ·obtain ⟨ds,rfl⟩:∃ ds,d=.tuple ds:=by cases d <;> first | exact ⟨_,rfl⟩ | (exfalso; simp [jY] at c)
   obtain ⟨a,xs,rfl,ha,hds⟩:=bH.mp hd
   have hl:=aN hds
   refine ⟨_,rfl,a,xs,rfl,.inr ha,rfl,_,rfl,?_⟩
   refine eK (fun c2=>?_) (fun c2=>?_)
   ·have e:false=cP n (.tuple ds):=by
     have e1:ds = []:=by
      have:(xs.length:Int)=0:=by simpa using c2
      exact Xx.mp (by omega)
     rw [e1]; rfl
    rw [e]; exact k
   ·have hne:ds≠[]:=by
     intro z
     apply c2
     rw [z] at hl
     simp [hl]
    have e0:cP n (.tuple ds)=eG n (-1) ds:=by
     show (!ds.isEmpty && eG n (-1) ds)=_
     cases ds with
     | nil=>exact absurd rfl hne
     | cons _ _=>rfl
    rw [e0] at k
    refine ⟨_,rfl,?_⟩
    refine ⟨_,rfl,a,rfl,⟨xs,ha⟩,uE (K:=K) (a:=a) (xs:=xs) (fun i σ H2=>∃ (last:Int) (v:Option V),σ = [some (.int n),some (.ref a),some (.int last),v]/\H2=H/\eG n (-1) ds=eG n last (ds.drop i))
     ⟨-1,none,rfl,rfl,rfl⟩ (fun i σ H2 _ ⟨_,_,_,e,_⟩=>by rw [e]; exact ha) ?_ ?_⟩
    ·rintro i y σ H2 hi ⟨last,v,rfl,rfl,hr2⟩
     obtain ⟨dy,hdy,hden⟩:=cC hds hi
     have hdrop:ds.drop i=dy::ds.drop (i+1):=by
      obtain ⟨hlt,e⟩:=Qd.mp hdy
      rw [Ys hlt,e]
     rw [hdrop] at hr2
     refine ⟨_,rfl,y,dy,rfl,hden,_,rfl,?_⟩
     refine eK (fun c3=>?_) (fun c3=>?_)
     ·refine gQ ?_
      have e:false=eG n (-1) ds:=by rw [hr2,qP]; simpa using c3
      rw [e]; exact k
     ·obtain ⟨j,rfl⟩:∃ j,dy=.int j:=by cases dy <;> first | exact ⟨_,rfl⟩ | (exfalso; simp [gU] at c3)
      obtain rfl:=eJ.mp hden
      rw [hX] at hr2
      refine ⟨_,rfl,_,rfl,_,_,rfl,rfl,_,rfl,?_⟩
      refine eK (fun c4=>?_) (fun c4=>?_)
      ·refine gQ ?_
       have c4':j<=last:=of_decide_eq_true c4
       have e:false=eG n (-1) ds:=by rw [hr2,decide_eq_false (by omega:¬ last < j)]; rfl
       rw [e]; exact k
      ·have c4':¬ j<=last:=fun z=>c4 (decide_eq_true z)
       refine ⟨_,rfl,_,rfl,_,_,rfl,rfl,_,rfl,?_⟩
       refine eK (fun c5=>?_) (fun c5=>?_)
       ·have c5':n<=j:=of_decide_eq_true c5
        have e:false=eG n (-1) ds:=by rw [hr2,decide_eq_false (by omega:¬ j < n),Bool.and_false]; rfl
        rw [e]; exact k
       ·have c5':¬ n<=j:=fun z=>c5 (decide_eq_true z)
        refine ⟨_,rfl,j,some (.int j),rfl,rfl,?_⟩
        rw [hr2,decide_eq_true (by omega:last < j),decide_eq_true (by omega:j < n)]
        rfl
    ·rintro σ H2 ⟨last,v,rfl,rfl,hr2⟩
     have e:true=eG n (-1) ds:=by
      rw [hr2,hl,List.drop_length]
      rfl
     show Q (.bl true) _
     rw [e]; exact k
theorem vC {σ:St} {H:Hp} {A B:Hp->Prop} (h:A H):uG σ H fun b H3=>if b=true then A H3 else B H3:=by
 show if true=true then A H else B H
 exact gQ h
theorem bK {i:Nat} {x:V} {σ:St} {H:Hp} {A B:St->Hp->Prop} (h:A (σ.set i (some x)) H):sS i x σ H fun σ2 H2=>uG σ2 H2 fun b H3=>if b=true then A σ2 H3 else B σ2 H3:=by
 show if true=true then A (σ.set i (some x)) H else B (σ.set i (some x)) H
 exact gQ h
def aAq (K:PySem.W.Frag):Sp:=fun vs H Q _=>∃ x d,vs = [x]/\Den K H d x/\∀ H',aE H H'->Q (.bl (cG d)) H'
theorem vD:FnScope ["thing", "hands", "works"] ["thing"] (aF qJ):=⟨rfl,rfl,rfl,by decide +kernel,rfl,by decide +kernel,by decide +kernel⟩
theorem aCz {f fW fH fK:Addr} {fd fdW fdH fdK:FuncData} (G:Fn K mg "is_book" qJ ["thing"] f fd) (B:Bl mg) (W:Fn K mg "is_whole" lT ["thing"] fW fdW) (GH:Fn K mg "are_hands" qH ["thing"] fH fdH) (GK:Fn K mg "is_work" qI ["hands", "thing"] fK fdK):FnOk P w K mg base CX0 3 f fd ["thing"] (aAq K):=by
 have OH:FnOk P w K mg base CX0 2 fH fdH ["thing"] (aAo K):=aCx GH B W
 have OK:FnOk P w K mg base CX0 2 fK fdK ["hands", "thing"] (aAp K):=aCy GK B W
 obtain ⟨t12,h12⟩:=B.works
 refine G.fn.ok vD (fun vs H Q E h=>?_) (fun cdv A outer s H vs Q E hr h=>?_)
 ·obtain ⟨x,d,rfl,_⟩:=h
  rfl
 ·obtain ⟨x,d,rfl,hd,k⟩:=h
  refine ⟨_,aD (bT (PW.pt (gA (cF (cJ (aK bN rfl B.isinstance iA (aA (pv 0) (aA (dO (v:=.ty "tuple") rfl B.tuple bV rfl) aB)))))
    (eT (bB gW (aK aS rfl B.len cU (aA (pv 0) aB)) aJ (bE _))))) (aG (aO cE)) aW)
   (aD (iG (pv 0) (eU rfl (aQ (aH (i:=1) vD.nd rfl (Or.inr rfl)) (aQ (aH (i:=2) vD.nd rfl (Or.inl rfl)) cH))))
   (aD (bT (cF (cJ (aT GH OH hr rfl (aA (pv 1) aB)))) (aG (aO cE)) aW)
   (aD (bT (PW.pt (gA (cF (cJ (aK bN rfl B.isinstance iA (aA (pv 2) (aA (dO (v:=.ty "tuple") rfl B.tuple bV rfl) aB)))))
    (eT (bB zY (aK aS rfl B.len cU (aA (pv 2) aB)) (uB (v:=.int 12) rfl h12 ⟨t12,rfl⟩) (bE _))))) (aG (aO cE)) aW)
   (aG (aO (aK (eN rfl) rfl B.all kK (aA
    (bR (own:=["work"]) (fr:=[1]) (frn:=["hands"]) (aV (aF qJ) ["thing", "hands", "works"] rfl rfl (by decide +kernel)) rfl (eL (pv 2))
     (fun _ _ _ _=>aH (i:=0) (show (["work", "hands"]:List Str).Nodup by decide +kernel) rfl (Or.inl rfl)) (fun _ _ _ _=>cA) (fun _ _ _ _=>aT GK OK hr rfl (aA (pv 1) (aA (pv 0) aB)))) aB))))))),?_⟩
  refine ⟨_,rfl,x,jY d,rfl,hd.kd,_,rfl,?_⟩
  refine eK (fun c=>?_) (fun c=>?_)
  ·refine gQ ?_
   have e:false=cG d:=by
    cases d <;> first | rfl | (exfalso; simp [jY] at c)
   rw [e]; exact k H (aE.refl H)
  ·obtain ⟨ds,rfl⟩:∃ ds,d=.tuple ds:=by cases d <;> first | exact ⟨_,rfl⟩ | (exfalso; simp [jY] at c)
   obtain ⟨a,xs,rfl,ha,hds⟩:=bH.mp hd
   have hl:=aN hds
   refine ⟨_,rfl,a,xs,rfl,.inr ha,rfl,_,rfl,?_⟩
   refine eK (fun c2=>?_) (fun c2=>?_)
   ·have e:false=cG (.tuple ds):=by
     match ds,hl,c2 with
     | [],_,_=>rfl
     | [_],_,_=>rfl
     | [_,_],hl,c2=>exfalso; rw [hl] at c2; simp at c2
     | _::_::_::_,_,_=>rfl
    rw [e]; exact k H (aE.refl H)
   ·obtain ⟨dh,dw,rfl⟩:∃ dh dw,ds = [dh,dw]:=by
     match ds,hl,c2 with
     | [],hl,c2=>exfalso; rw [hl] at c2; simp at c2
     | [_],hl,c2=>exfalso; rw [hl] at c2; simp at c2
     | [p,q],_,_=>exact ⟨p,q,rfl⟩
     | p::q::r::t,hl,c2=>exfalso; apply c2; rw [hl]; simp; omega
    obtain ⟨xh,r1,rfl,hh,h2⟩:=aX.mp hds
    obtain ⟨xw,r2,rfl,hw,h3⟩:=aX.mp h2
    obtain rfl:=bD.mp h3
    -- hands,works=thing
    refine ⟨_,rfl,a,_,rfl,ha,rfl,_,_,rfl,_,_,rfl,rfl,?_⟩
    -- are_hands(hands)
    refine ⟨_,rfl,xh,dh,rfl,hh,_,rfl,?_⟩
    refine eK (fun c3=>?_) (fun c3=>?_)
    ·have e:false=cG (.tuple [dh,dw]):=by
      have c3':iL dh=false:=by simpa using c3
      cases dh with
      | int n =>
       cases dw with
       | tuple ws =>
        have c4:(decide (1<=n) && decide (n<=6))=false:=c3'
        show _=(decide (1<=n) && decide (n<=6) && decide (ws.length<=12) && ws.all (cP n))
        rw [c4]; rfl
       | _=>rfl
      | _=>rfl
     rw [e]; exact k H (aE.refl H)
    ·obtain ⟨n,rfl,hn⟩:∃ n,dh=.int n/\(decide (1<=n) && decide (n<=6))=true:=by
      cases dh <;> first | exact ⟨_,rfl,by simpa [iL] using c3⟩ | (exfalso; simp [iL] at c3)
     obtain rfl:=eJ.mp hh
     refine ⟨_,rfl,xw,jY dw,rfl,hw.kd,_,rfl,?_⟩
     refine eK (fun c5=>?_) (fun c5=>?_)
     ·refine gQ ?_
      have e:false=cG (.tuple [.int n,dw]):=by
       cases dw <;> first | rfl | (exfalso; simp [jY] at c5)
      rw [e]; exact k H (aE.refl H)
     ·obtain ⟨ws,rfl⟩:∃ ws,dw=.tuple ws:=by cases dw <;> first | exact ⟨_,rfl⟩ | (exfalso; simp [jY] at c5)
      obtain ⟨b,ys,rfl,hb,hws⟩:=bH.mp hw
      have hlw:=aN hws
      have eB:cG (.tuple [.int n,.tuple ws])=(decide (ws.length<=12) && ws.all (cP n)):=by
       show (decide (1<=n) && decide (n<=6) && decide (ws.length<=12) && ws.all (cP n))=_
       rw [hn,Xe]
      rw [eB] at k
      refine ⟨_,rfl,b,ys,rfl,.inr hb,_,_,rfl,rfl,_,rfl,?_⟩
      refine eK (fun c6=>?_) (fun c6=>?_)
      ·have c6':(12:Int) < ys.length:=of_decide_eq_true c6
       have e:false=(decide (ws.length<=12) && ws.all (cP n)):=by rw [decide_eq_false (by omega:¬ ws.length<=12)]; rfl
       rw [e]; exact k H (aE.refl H)
      ·have c6':¬ (12:Int) < ys.length:=fun z=>c6 (decide_eq_true z)
       have e1:decide (ws.length<=12)=true:=decide_eq_true (by omega)
       rw [e1,Xe] at k
       refine ⟨_,rfl,b,rfl,⟨ys,hb⟩,gY (K:=K) (a:=b) (xs:=ys) (fun σ=>∃ v,σ = [v,some (.int n)]) (fun i zs H2=>H2=H/\zs=((ws.take i).map (cP n)).map V.bl) ?_ ⟨none,rfl⟩ ⟨rfl,rfl⟩ ?_ ?_ ?_ ?_⟩
       ·rw [sizeLine_eq]; omega
       ·rintro i zs H2 ⟨_,rfl⟩
        rw [Qb,Qb,Ja]; omega
       ·rintro i zs H2 ⟨rfl,_⟩
        exact hb
       ·rintro i zs σ x H2 hx ⟨v,rfl⟩ ⟨rfl,rfl⟩ hz
        obtain ⟨dx,hdx,hden⟩:=cC hws hx
        refine bK ?_
        refine ⟨_,rfl,_,rfl,n,x,dx,rfl,hden,hz,⟨some x,rfl⟩,rfl,?_⟩
        rw [Jh,hdx]
        simp
       ·rintro zs H2 ⟨rfl,rfl⟩ p hp
        refine ⟨p,_,rfl,SqL.of aC,?_⟩
        have e2:((ws.take ys.length).map (cP n)).all id=ws.all (cP n):=by
         rw [hlw,Js,Xu]
         rfl
        rw [e2]
        exact k _ (aE.new hp)
end
def bO (l:List Int):PyData:=.tuple (l.map .int)
def bY (n:Int) (ws:List (List Int)):PyData:=.tuple [.int n,.tuple (ws.map bO)]
def cM (hs:List Int):PyData:=.tuple (hs.map .int)
def gF:PyData->List Int->Bool
 | .int i,l=>l.any (·==i)
 | _,_=>false
def cR (ws:List (List Int)):PyData->Bool
 | .tuple hs=>decide (hs.length=ws.length) && (hs.zip ws).all fun p=>gF p.1 p.2
 | _=>false
theorem nX (l:List Int):(l.map V.int).all lJ=true:=by
 rw [Xu]
 exact Jd.mpr fun _ _=>rfl
theorem vE (i:Int) (l:List Int):inV (.int i) (l.map V.int)=l.any (·==i):=by
 unfold inV
 rw [Wy]
 rfl
theorem bS {K:PySem.W.Frag} {H:Hp} {n:Int} {ws:List (List Int)} {x:V} (h:Den K H (bY n ws) x):∃ a b ys,x=.ref a/\SqT K H a [.int n,.ref b]/\SqT K H b ys/\bA K H (ws.map bO) ys:=by
 obtain ⟨a,xs,rfl,ha,hds⟩:=bH.mp h
 obtain ⟨xh,r1,rfl,hh,h2⟩:=aX.mp hds
 obtain ⟨xw,r2,rfl,hw,h3⟩:=aX.mp h2
 obtain rfl:=bD.mp h3
 obtain rfl:=eJ.mp hh
 obtain ⟨b,ys,rfl,hb,hys⟩:=bH.mp hw
 exact ⟨a,b,ys,rfl,ha,hb,hys⟩
theorem bC {n:Int} {ws:List (List Int)} (h:cG (bY n ws)=true):1<=n/\n<=6/\ws.length<=12/\∀ l∈ws,cP n (bO l)=true:=by
 have h':(decide (1<=n) && decide (n<=6) && decide ((ws.map bO).length<=12) && (ws.map bO).all (cP n))=true:=h
 simp only [Jc,decide_eq_true_eq,Qb,Jd] at h'
 exact ⟨h'.1.1.1,h'.1.1.2,h'.1.2,fun l hl=>h'.2 _ (Jm.mpr ⟨l,hl,rfl⟩)⟩
theorem jP {X:Cx} {pos:Pos} {es:List Expr} {k:Nat} {t:TGs} {n:Nat} {K:PySem.W.Frag} (hK:X.K=K) (hc:X.calm=true) (h:PGs X es t)
  (hn:(assignEach es X.env).length=n:=by rfl) (hst:(assignEach es X.env).findIdx? (·.1)=none:=by rfl):PG X (.Tuple es k pos) (aE9 K n t):=by
 subst hK
 exact eU hc h hn hst
section
variable {X:Cx} {K:PySem.W.Frag}
theorem qQ (hK:X.K=K):OpR X (compareOp .In) (rIn K false):=by subst hK; exact iU
theorem eD (hK:X.K=K):IxR X (aFk K):=by subst hK; exact aZ
theorem iR (hK:X.K=K):eI X (.builtin "len") (fun xs H Q=>∃ p ys,xs = [.ref p]/\(SqL K H p ys∨SqT K H p ys)/\Q (.int ys.length) H):=by subst hK; exact aS
theorem yT (hK:X.K=K):MtR X "tuple.count" (fun x vs H Q=>∃ (a:Addr) (ns:List Int) (n:Int),x=.ref a/\vs = [.int n]/\SqT K H a (ns.map V.int)/\Q (.int (ns.count n:Nat)) H):=by subst hK; exact aAY
end
section
variable {P:Program} {w:World} {K:PySem.W.Frag} {mg:Str->Option Value} {base:Heap}
structure Pr (K:PySem.W.Frag) (mg:Str->Option Value) (fW fH fK fB fNB fD fND fL:Addr) (dW dH dK dB dNB dD dND dL:FuncData):Prop where
 W:Fn K mg "is_whole" lT ["thing"] fW dW
 H:Fn K mg "are_hands" qH ["thing"] fH dH
 Kw:Fn K mg "is_work" qI ["hands", "thing"] fK dK
 B:Fn K mg "is_book" qJ ["thing"] fB dB
 NB:Fn K mg "need_book" yP ["book"] fNB dNB
 D:Fn K mg "is_deal" vA ["book", "thing"] fD dD
 ND:Fn K mg "need_deal" yQ ["book", "deal"] fND dND
 C:∃ f d,Fn K mg "counted" eP ["hands", "deal"] f d
 L:Fn K mg "loads" yR ["book", "deal"] fL dL
variable {fW fH fK fB fNB fD fND fL:Addr} {dW dH dK dB dNB dD dND dL:FuncData}
def pC (K:PySem.W.Frag):Sp:=fun vs H Q _=>∃ x d,vs = [x]/\Den K H d x/\cG d=true/\∀ H',aE H H'->Q .non H'
theorem aDI:FnScope ["book"] ["book"] (aF yP):=⟨rfl,rfl,rfl,by decide +kernel,rfl,by decide +kernel,by decide +kernel⟩
theorem qR (B:Bl mg) (R:Pr K mg fW fH fK fB fNB fD fND fL dW dH dK dB dNB dD dND dL):FnOk P w K mg base CX0 4 fNB dNB ["book"] (pC K):=by
 have OB:FnOk P w K mg base CX0 3 fB dB ["thing"] (aAq K):=aCz R.B B R.W R.H R.Kw
 refine R.NB.fn.ok aDI (fun vs H Q E h=>?_) (fun cdv A outer s H vs Q E hr h=>?_)
 ·obtain ⟨x,d,rfl,_⟩:=h
  rfl
 ·obtain ⟨x,d,rfl,hd,hb,k⟩:=h
  refine ⟨_,aG (bT (cF (cJ (aT R.B OB hr rfl (aA (pv 0) aB)))) kU aW),?_⟩
  refine ⟨_,rfl,x,d,rfl,hd,fun H' hs=>⟨_,rfl,?_⟩⟩
  rw [hb]
  refine eE ?_
  exact k H' hs
def aAr (K:PySem.W.Frag):Sp:=fun vs H Q _=>∃ x y n ws d,vs = [x,y]/\Den K H (bY n ws) x/\cG (bY n ws)=true/\Den K H d y/\∀ H',aE H H'->Q (.bl (cR ws d)) H'
theorem aAs:FnScope ["book", "thing", "works"] ["book", "thing"] (aF vA):=⟨rfl,rfl,rfl,by decide +kernel,rfl,by decide +kernel,by decide +kernel⟩
theorem aCA (B:Bl mg) (R:Pr K mg fW fH fK fB fNB fD fND fL dW dH dK dB dNB dD dND dL):FnOk P w K mg base CX0 5 fD dD ["book", "thing"] (aAr K):=by
 have ON:FnOk P w K mg base CX0 4 fNB dNB ["book"] (pC K):=qR B R
 have OW:FnOk P w K mg base CX0 1 fW dW ["thing"] (jO K):=jB R.W B
 refine R.D.fn.ok aAs (fun vs H Q E h=>?_) (fun cdv A outer s H vs Q E hr h=>?_)
 ·obtain ⟨x,y,n,ws,d,rfl,_⟩:=h
  rfl
 ·obtain ⟨x,y,n,ws,d,rfl,hx,hb,hd,k⟩:=h
  have hr1:Room 1 _:=hr.mono (by decide)
  refine ⟨_,aD (cQ (aT R.NB ON hr rfl (aA (pv 0) aB)))
   (aD (aY (i:=2) aAs.nd rfl (Or.inl rfl) (aU aZ (pv 0) aJ (fun _ _=>rfl)))
   (aD (bT (PW.pt (gA (cF (cJ (aK bN rfl B.isinstance iA (aA (pv 1) (aA (dO (v:=.ty "tuple") rfl B.tuple bV rfl) aB)))))
    (eT (bB gW (aK aS rfl B.len cU (aA (pv 1) aB)) (aK aS rfl B.len cU (aA (pv 2) aB)) (bE _))))) (aG (aO cE)) aW)
   (aG (aO (aK (eN rfl) rfl B.all kK (aA
    (bR (own:=["hand", "able"]) (fr:=[]) (frn:=[]) (aV (aF vA) ["book", "thing", "works"] rfl rfl (by decide +kernel)) rfl (lQ .t .t rfl B.zip (aA (pv 1) (aA (pv 2) aB)))
     (fun _ _ _ _=>jP (K:=K) (n:=2) rfl rfl (aQ (aH (i:=0) (show (["hand", "able"]:List Str).Nodup by decide +kernel) rfl (Or.inl rfl)) (aQ (aH (i:=1) (show (["hand", "able"]:List Str).Nodup by decide +kernel) rfl (Or.inl rfl)) cH)))
     (fun _ _ _ _=>cA) (fun _ _ _ _=>jI (aT R.W OW hr1 rfl (aA (pv 0) aB)) (jH (eX (qQ (K:=K) rfl) (pv 0) (pv 1) (by with_unfolding_all rfl))))) aB)))))),?_⟩
  refine ⟨_,rfl,x,bY n ws,rfl,hx,hb,fun H1 s1=>?_⟩
  have hx1:=s1.den _ _ hx
  have hd1:=s1.den _ _ hd
  obtain ⟨a,b,ys,rfl,ha,hb2,hys⟩:=bS hx1
  have hlw:=aN hys
  rw [Qb] at hlw
  refine ⟨_,rfl,a,_,1,.ref b,rfl,rfl,ha,rfl,?_⟩
  refine ⟨_,rfl,y,jY d,rfl,hd1.kd,_,rfl,?_⟩
  refine eK (fun c=>?_) (fun c=>?_)
  ·refine gQ ?_
   have e:false=cR ws d:=by
    cases d <;> first | rfl | (exfalso; simp [jY] at c)
   rw [e]; exact k H1 s1
  ·obtain ⟨hs,rfl⟩:∃ hs,d=.tuple hs:=by cases d <;> first | exact ⟨_,rfl⟩ | (exfalso; simp [jY] at c)
   obtain ⟨a2,xs,rfl,ha2,hxs⟩:=bH.mp hd1
   have hlx:=aN hxs
   refine ⟨_,rfl,a2,xs,rfl,.inr ha2,_,rfl,b,ys,rfl,.inr hb2,rfl,_,rfl,?_⟩
   refine eK (fun c2=>?_) (fun c2=>?_)
   ·have e:false=cR ws (.tuple hs):=by
     show _=(decide (hs.length=ws.length) && (hs.zip ws).all fun p=>gF p.1 p.2)
     rw [decide_eq_false]
     ·rfl
     ·intro z
      have:(V.int (xs.length:Int)=V.int (ys.length:Int)):=by rw [hlx,hlw,z]
      simp [this] at c2
    rw [e]; exact k H1 s1
   ·have heq:xs.length=ys.length:=by
     have:V.int (xs.length:Int)=V.int (ys.length:Int):=by simpa using c2
     injection this with this
     omega
    have e0:cR ws (.tuple hs)=(hs.zip ws).all fun p=>gF p.1 p.2:=by
     show (decide (hs.length=ws.length) && _)=_
     rw [decide_eq_true (by omega:hs.length=ws.length),Xe]
    rw [e0] at k
    obtain ⟨_,_,h12,_⟩:=bC hb
    refine ⟨_,rfl,_,rfl,a2,b,xs,ys,rfl,ha2,hb2,pU (K:=K) (k1:=.t) (k2:=.t) (a:=a2) (b:=b) (xs:=xs) (ys:=ys) (fun σ=>∃ u v,σ = [u,v]) (fun i zs H2=>aE H1 H2/\zs=(((hs.zip ws).take i).map fun p=>gF p.1 p.2).map V.bl) ?_ heq ⟨none,none,rfl⟩ ⟨aE.refl H1,rfl⟩ ?_ ?_ ?_ ?_⟩
    ·rw [sizeLine_eq]; omega
    ·rintro i zs H2 ⟨_,rfl⟩
     rw [Qb,Qb,Ja]; omega
    ·rintro i zs H2 ⟨s2,_⟩
     exact ⟨s2.seqT ha2,s2.seqT hb2⟩
    ·rintro i zs σ u v p H2 hu hv ⟨u0,v0,rfl⟩ ⟨s2,rfl⟩ hp hz
     obtain ⟨du,hdu,denu⟩:=cC hxs hu
     obtain ⟨dv,hdv,denv⟩:=cC hys hv
     rw [Qg] at hdv
     obtain ⟨l,hl,rfl⟩:∃ l,ws[i]?=some l/\bO l=dv:=by
      cases q:ws[i]? with
      | none=>rw [q] at hdv; cases hdv
      | some l=>rw [q] at hdv; exact ⟨l,rfl,Option.some.inj hdv⟩
     have s3:aE H1 (upd H2 p (.tup [u,v])):=s2.trans (aE.new hp)
     have hzip:(hs.zip ws)[i]?=some (du,l):=by rw [Jn]; exact ⟨hdu,hl⟩
     have enext:(((hs.zip ws).take (i+1)).map fun p=>gF p.1 p.2).map V.bl=(((hs.zip ws).take i).map fun p=>gF p.1 p.2).map V.bl++[V.bl (gF du l)]:=by
      rw [Jh,hzip]; simp
     refine ⟨p,_,rfl,SqT.of aC,rfl,_,_,rfl,_,_,rfl,rfl,?_⟩
     refine vC ?_
     refine ⟨_,rfl,u,du,rfl,s3.den _ _ denu,_,rfl,?_⟩
     refine eK (fun c3=>?_) (fun c3=>?_)
     ·obtain ⟨j,rfl⟩:∃ j,du=.int j:=by cases du <;> first | exact ⟨_,rfl⟩ | (exfalso; simp [gU] at c3)
      obtain rfl:=eJ.mp denu
      obtain ⟨av,rfl,hav⟩:=aP.mp denv
      refine ⟨_,rfl,_,rfl,av,_,rfl,.inr (s3.seqT hav),rfl,nX l,hz,⟨_,_,rfl⟩,s3,?_⟩
      rw [enext]
      show _++[V.bl (inV (.int j) (l.map V.int))]=_
      rw [vE]
      rfl
     ·have e:gF du l=false:=by cases du <;> first | rfl | (exfalso; simp [gU] at c3)
      refine ⟨hz,⟨_,_,rfl⟩,s3,?_⟩
      rw [enext,e]
    ·rintro zs H2 ⟨s2,rfl⟩ p hp
     refine ⟨p,_,rfl,SqL.of aC,?_⟩
     have e2:(((hs.zip ws).take xs.length).map fun p=>gF p.1 p.2).all id=(hs.zip ws).all fun p=>gF p.1 p.2:=by
      rw [Jf (by rw [List.length_zip]; omega),Xu]
      rfl
     rw [e2]
     exact k _ (s1.trans (s2.trans (aE.new hp)))
end
def aL (n:Int) (hs:List Int):List Int:=(cZ n.toNat).map fun h=>((hs.count h:Nat):Int)
def qS (n:Int) (hs:List Int):Int:=aM ((aL n hs).map fun l=>l*(l+1) / 2)
theorem kM {n i:Nat} (h:i < n):(cZ n)[i]?=some (i:Int):=by
 unfold cZ
 rw [Qg,Zm h]
 rfl
theorem fV (n:Nat):(cZ n).length=n:=by unfold cZ; rw [Qb,Zg]
theorem aCB {X:Cx} {K:PySem.W.Frag} {o e:Expr} {es:List Expr} {to:TE} {t:TA} {name:Str} {apos cpos:Pos} {T id:String} {r:V->List V->Hp->VK->Prop} (hK:X.K=K) (pa:PlainAttrs T) (slot:Slot T name id) (hty:typeOf (.builtin id)=pure (.type "method_descriptor")) (hm:MtR X id r) (ho:PE X o to) (ha:PA X (e::es) t)
  (hbase:attributeBase o name X.env (eval o X.env)=eval o X.env:=by rfl)
  (hfew:((backTo cpos (starEach (e::es) X.env)).all (fun x=>!x.1) && (backToKw cpos (keywordEach [] X.env)).all (fun x=>x.1.isSome)
   && decide ((e::es).length+([]:List Keyword).length+(if ([]:List Keyword).isEmpty then 0 else 1) < 30))=true:=by rfl)
  (hline:(apos.endLine==cpos.line)=true:=by rfl) (hs:starEach (e::es) X.env=(false,eval e X.env)::starEach es X.env:=by rfl) (hplain:(backTo cpos (starEach es X.env)).any (·.1)=false:=by rfl) :
  PE X (.Call (.Attribute o name apos) (e::es) [] cpos) (tBM K T r to t):=by
 subst hK
 exact mG pa slot hty hm ho ha hbase hfew hline hs hplain
section
variable {P:Program} {w:World} {K:PySem.W.Frag} {mg:Str->Option Value} {base:Heap}
variable {fW fH fK fB fNB fD fND fL:Addr} {dW dH dK dB dNB dD dND dL:FuncData}
def dM (K:PySem.W.Frag) (H:Hp) (x y:V) (n:Int) (ws:List (List Int)) (hs:List Int):Prop:=Den K H (bY n ws) x/\cG (bY n ws)=true/\Den K H (cM hs) y/\cR ws (cM hs)=true
theorem dM.same {H H':Hp} {x y:V} {n:Int} {ws:List (List Int)} {hs:List Int} (g:dM K H x y n ws hs) (e:aE H H'):dM K H' x y n ws hs:=⟨e.den _ _ g.1,g.2.1,e.den _ _ g.2.2.1,g.2.2.2⟩
theorem dM.len {H:Hp} {x y:V} {n:Int} {ws:List (List Int)} {hs:List Int} (g:dM K H x y n ws hs):hs.length<=12/\1<=n/\n<=6:=by
 obtain ⟨h1,h2,h3,_⟩:=bC g.2.1
 have h:(decide ((hs.map PyData.int).length=ws.length) && ((hs.map PyData.int).zip ws).all fun p=>gF p.1 p.2)=true:=g.2.2.2
 simp only [Jc,decide_eq_true_eq,Qb] at h
 omega
def mY (K:PySem.W.Frag):Sp:=fun vs H Q _=>∃ x y n ws hs,vs = [x,y]/\dM K H x y n ws hs/\∀ H',aE H H'->Q .non H'
theorem aDJ:FnScope ["book", "deal"] ["book", "deal"] (aF yQ):=⟨rfl,rfl,rfl,by decide +kernel,rfl,by decide +kernel,by decide +kernel⟩
theorem mZ (B:Bl mg) (R:Pr K mg fW fH fK fB fNB fD fND fL dW dH dK dB dNB dD dND dL):FnOk P w K mg base CX0 6 fND dND ["book", "deal"] (mY K):=by
 have OD:FnOk P w K mg base CX0 5 fD dD ["book", "thing"] (aAr K):=aCA B R
 refine R.ND.fn.ok aDJ (fun vs H Q E h=>?_) (fun cdv A outer s H vs Q E hr h=>?_)
 ·obtain ⟨x,y,n,ws,hs,rfl,_⟩:=h
  rfl
 ·obtain ⟨x,y,n,ws,hs,rfl,⟨g1,g2,g3,g4⟩,k⟩:=h
  refine ⟨_,aG (bT (cF (cJ (aT R.D OD hr rfl (aA (pv 0) (aA (pv 1) aB))))) kU aW),?_⟩
  refine ⟨_,rfl,_,rfl,x,y,n,ws,cM hs,rfl,g1,g2,g3,fun H' hs=>⟨_,rfl,?_⟩⟩
  rw [g4]
  refine eE ?_
  exact k H' hs
def jC (K:PySem.W.Frag):Sp:=fun vs H Q _=>∃ (n:Int) (b:Addr) (hs:List Int),vs = [.int n,.ref b]/\SqT K H b (hs.map V.int)/\0<=n/\n<=6/\∀ p H',aE H H'->H' p=some (.tup ((aL n hs).map V.int))->Q (.ref p) H'
theorem tM:FnScope ["hands", "deal"] ["hands", "deal"] (aF eP):=⟨rfl,rfl,rfl,by decide +kernel,rfl,by decide +kernel,by decide +kernel⟩
theorem jQ {f:Addr} {fd:FuncData} (G:Fn K mg "counted" eP ["hands", "deal"] f fd) (B:Bl mg):FnOk P w K mg base CX0 1 f fd ["hands", "deal"] (jC K):=by
 refine G.fn.ok tM (fun vs H Q E h=>?_) (fun cdv A outer s H vs Q E hr h=>?_)
 ·obtain ⟨n,b,hs,rfl,_⟩:=h
  rfl
 ·obtain ⟨n,c,hs,rfl,hc,hn1,hn6,k⟩:=h
  refine ⟨_,aG (aO (bQ bI rfl B.tuple bV (aA
    (bR (own:=["hand"]) (fr:=[1]) (frn:=["deal"]) (aV (aF eP) ["hands", "deal"] rfl rfl (by decide +kernel)) rfl (cK rfl B.range (aA (pv 0) aB))
     (fun _ _ _ _=>aH (i:=0) (show (["hand", "deal"]:List Str).Nodup by decide +kernel) rfl (Or.inl rfl)) (fun _ _ _ _=>cA)
     (fun _ _ _ _=>aCB (K:=K) rfl PySem.F.plainAttrs_tuple PySem.F.slot_tuple_count PySem.F.type_tuple_count (yT (K:=K) rfl) (pv 1) (aA (pv 0) aB))) aB))),?_⟩
  refine ⟨_,rfl,n,rfl,by omega,by omega,eC (lo:=0) (n:=n.toNat) (fun σ=>∃ v,σ = [v,some (.ref c)]) (fun i zs H2=>H2=H/\zs=(((cZ n.toNat).take i).map fun h=>((hs.count h:Nat):Int)).map V.int) ?_ ⟨none,rfl⟩ ⟨rfl,rfl⟩ ?_ ?_ ?_⟩
  ·rw [sizeLine_eq]; omega
  ·rintro i zs H2 ⟨_,rfl⟩
   rw [Qb,Qb,Ja]; omega
  ·rintro i zs σ H2 hi ⟨v,rfl⟩ ⟨rfl,rfl⟩ hz
   refine bK ?_
   refine ⟨_,rfl,.inr (.inl ⟨rfl,_,hc⟩),_,rfl,c,hs,_,rfl,rfl,hc,hz,⟨_,rfl⟩,rfl,?_⟩
   rw [Jh,kM hi]
   simp
  ·rintro zs H2 ⟨rfl,rfl⟩ p hp
   refine ⟨p,_,rfl,.inl ⟨SqL.of aC,fun l hl=>?_⟩⟩
   refine k l _ ((aE.new hp).trans (aE.new hl)) ?_
   rw [aC,Jf (by rw [fV]; exact Qh _)]
   rfl
def pD (K:PySem.W.Frag):Sp:=fun vs H Q _=>∃ x y n ws hs,vs = [x,y]/\dM K H x y n ws hs/\∀ p H',aE H H'->H' p=some (.tup ((aL n hs).map V.int))->Q (.ref p) H'
theorem aDK:FnScope ["book", "deal"] ["book", "deal"] (aF yR):=⟨rfl,rfl,rfl,by decide +kernel,rfl,by decide +kernel,by decide +kernel⟩
theorem qT (B:Bl mg) (R:Pr K mg fW fH fK fB fNB fD fND fL dW dH dK dB dNB dD dND dL):FnOk P w K mg base CX0 7 fL dL ["book", "deal"] (pD K):=by
 have ON:FnOk P w K mg base CX0 6 fND dND ["book", "deal"] (mY K):=mZ B R
 obtain ⟨fC,dC,GC⟩:=R.C
 have OC:FnOk P w K mg base CX0 1 fC dC ["hands", "deal"] (jC K):=jQ GC B
 refine R.L.fn.ok aDK (fun vs H Q E h=>?_) (fun cdv A outer s H vs Q E hr h=>?_)
 ·obtain ⟨x,y,n,ws,hs,rfl,_⟩:=h
  rfl
 ·obtain ⟨x,y,n,ws,hs,rfl,g,k⟩:=h
  have r1:Room 1 _:=hr.mono (by decide)
  refine ⟨_,aD (cQ (aT R.ND ON hr rfl (aA (pv 0) (aA (pv 1) aB))))
   (aG (aO (aT GC OC r1 rfl (aA (aU aZ (pv 0) aJ (fun _ _=>rfl)) (aA (pv 1) aB))))),?_⟩
  refine ⟨_,rfl,_,rfl,x,y,n,ws,hs,rfl,g,fun H1 s1=>?_⟩
  have g1:=g.same s1
  obtain ⟨hl,hn1,hn6⟩:=g.len
  obtain ⟨a,b,ys,rfl,ha,hb2,hys⟩:=bS g1.1
  obtain ⟨c,rfl,hc⟩:=aP.mp g1.2.2.1
  refine ⟨_,rfl,a,_,0,.int n,rfl,rfl,ha,rfl,_,rfl,n,c,hs,rfl,hc,by omega,hn6,fun p H2 s2 hp=>?_⟩
  exact k p H2 (s1.trans s2) hp
theorem bJ (n:Int) (hs:List Int):(aL n hs).length=n.toNat:=by unfold aL; rw [Qb,fV]
theorem iC {n:Int} {hs:List Int} {l:Int} (h:l∈aL n hs):0<=l/\l<=hs.length:=by
 unfold aL at h
 obtain ⟨i,_,rfl⟩:=Jm.mp h
 have:=Jz (a:=i) (l:=hs)
 omega
end
def But (t:Addr) (H H':Hp):Prop:=∀ b o,b≠t->H b=some o->H' b=some o
theorem But.refl (t:Addr) (H:Hp):But t H H:=fun _ _ _ h=>h
theorem But.trans {t:Addr} {H H1 H2:Hp} (a:But t H H1) (b:But t H1 H2):But t H H2:=fun c o n h=>b c o n (a c o n h)
theorem But.of {t:Addr} {H H':Hp} (a:aE H H'):But t H H':=fun c o _ h=>a c o h
theorem But.at {t:Addr} {H:Hp} {u:HO}:But t H (upd H t u):=fun c o n h=>by rw [aI n]; exact h
theorem But.free {t:Addr} {H H':Hp} (e:But t H H') {l:Addr} (h:H' l=none) (n:l≠t):H l=none:=by
 cases q:H l with
 | none=>rfl
 | some o=>rw [e l o n q] at h; cases h
section
variable {K:PySem.W.Frag} {t:Addr} {H H':Hp} {ys:List V}
theorem But.seqT {a:Addr} {xs:List V} (e:But t H H') (ht:H t=some (.lst ys)) (h:SqT K H a xs):SqT K H' a xs:=by
 rcases h with (h | ⟨o,h⟩) | h
 ·exact .inl (.inl (e a _ (fun z=>by rw [z,ht] at h; cases h) h))
 ·exact .inl (.inr ⟨o,e a _ (fun z=>by rw [z,ht] at h; cases h) h⟩)
 ·exact .inr h
mutual
def eZ:PyData->Bool
 | .dict _=>false
 | .list _=>false
 | .tuple ds=>gG ds
 | _=>true
def gG:List PyData->Bool
 | []=>true
 | d::ds=>eZ d && gG ds
end
mutual
theorem But.den (e:But t H H') (ht:H t=some (.lst ys)):∀ (d:PyData) (v:V),eZ d=true->Den K H d v->Den K H' d v
 | .none,v,_,h=>by unfold Den at h ⊢; exact h
 | .bool b,v,_,h=>by unfold Den at h ⊢; exact h
 | .int i,v,_,h=>by unfold Den at h ⊢; exact h
 | .str x,v,_,h=>by unfold Den at h ⊢; exact h
 | .list ds,v,n,h=>by unfold eZ at n; cases n
 | .tuple ds,v,n,h=>by unfold eZ at n; unfold Den at h ⊢; obtain ⟨a,xs,h1,h2,h3⟩:=h; exact ⟨a,xs,h1,e.seqT ht h2,But.denAll e ht ds xs n h3⟩
 | .dict kvs,v,n,h=>by unfold eZ at n; cases n
theorem But.denAll (e:But t H H') (ht:H t=some (.lst ys)):∀ (ds:List PyData) (xs:List V),gG ds=true->bA K H ds xs->bA K H' ds xs
 | [],xs,_,h=>by unfold bA at h ⊢; exact h
 | d::ds,xs,n,h=>by
  unfold gG at n; rw [Jc] at n
  unfold bA at h ⊢; obtain ⟨x,r,h1,h2,h3⟩:=h; exact ⟨x,r,h1,But.den e ht d x n.1 h2,But.denAll e ht ds r n.2 h3⟩
end
end
theorem eQ {α:Type} (f:α->PyData) (h:∀ x,eZ (f x)=true):∀ l:List α,gG (l.map f)=true
 | []=>by unfold List.map gG; rfl
 | x::r=>by rw [Jj]; unfold gG; rw [h x,eQ f h r]; rfl
theorem qU (i:Int):eZ (.int i)=true:=by unfold eZ; rfl
theorem dU (l:List Int):eZ (bO l)=true:=by unfold bO eZ; exact eQ _ qU l
theorem wR (l:List Int):eZ (cM l)=true:=dU l
theorem oO (n:Int) (ws:List (List Int)):eZ (bY n ws)=true:=by
 unfold bY eZ gG
 rw [qU]
 unfold gG eZ
 rw [eQ _ dU ws]
 unfold gG
 rfl
theorem sz1 (x:V) : [x].length<=sizeLine:=by rw [sizeLine_eq]; simp
theorem sz2 (x y:V) : [x,y].length<=sizeLine:=by rw [sizeLine_eq]; simp
theorem cV {n:Nat} (h:n<=1000):n<=sizeLine:=by rw [sizeLine_eq]; omega
def fJ (K:PySem.W.Frag) (H:Hp) (t a:Addr) (ns:List Int):Prop:=∃ q:Int,H t=some (.lst [.int q])
theorem fJ.same {K:PySem.W.Frag} {H H':Hp} {t a:Addr} {ns:List Int} (h:fJ K H t a ns) (e:aE H H'):fJ K H' t a ns:=by
 obtain ⟨q,h2⟩:=h
 exact ⟨q,e t _ h2⟩
theorem fJ.den {K:PySem.W.Frag} {H H':Hp} {t a:Addr} {ns:List Int} (h:fJ K H t a ns) (e:But t H H') {d:PyData} {v:V} (n:eZ d=true) (hd:Den K H d v):Den K H' d v:=by
 obtain ⟨q,h2⟩:=h
 exact e.den h2 d v n hd
theorem fJ.denAll {K:PySem.W.Frag} {H H':Hp} {t a:Addr} {ns:List Int} (h:fJ K H t a ns) (e:But t H H') {ds:List PyData} {vs:List V} (n:gG ds=true) (hd:bA K H ds vs):bA K H' ds vs:=by
 obtain ⟨q,h2⟩:=h
 exact e.denAll h2 ds vs n hd
theorem fJ.seqT {K:PySem.W.Frag} {H H':Hp} {t a:Addr} {ns:List Int} (h:fJ K H t a ns) (e:But t H H') {b:Addr} {xs:List V} (hd:SqT K H b xs):SqT K H' b xs:=by
 obtain ⟨q,h2⟩:=h
 exact e.seqT h2 hd
theorem fJ.ne {K:PySem.W.Frag} {H:Hp} {t a:Addr} {ns:List Int} (h:fJ K H t a ns) {b:Addr} (hb:H b=none):b≠t:=by
 obtain ⟨q,h2⟩:=h
 intro z
 rw [z,h2] at hb
 cases hb
theorem fJ.wr {K:PySem.W.Frag} {H H':Hp} {t a f:Addr} {ns:List Int} (T:fJ K H t a ns) (b:But f H H') (n:t≠f):fJ K H' t a ns:=by
 obtain ⟨q,h2⟩:=T
 exact ⟨q,b t _ n h2⟩
section
variable {P:Program} {w:World} {K:PySem.W.Frag} {mg:Str->Option Value} {base:Heap}
theorem fY (ns:List Int):hU (.list (ns.map .int))=true:=by
 unfold hU
 induction ns with
 | nil=>unfold List.map jM; rfl
 | cons n r ih=>rw [Jj]; unfold jM; rw [ih]; unfold hU; rfl
theorem qV {α:Type} (f:α->PyData) (h:∀ x,(f x).canLay0=true):∀ l:List α,PyData.canLayAll0 (l.map f)=true
 | []=>by unfold List.map PyData.canLayAll0; rfl
 | x::r=>by rw [Jj]; unfold PyData.canLayAll0; rw [h x,qV f h r]; rfl
theorem tN {α:Type} {k:Nat} (f:α->PyData) (h:∀ x,(f x).depth<=k):∀ l:List α,PyData.depthAll (l.map f)<=k
 | []=>by unfold List.map PyData.depthAll; exact Jo _
 | x::r=>by rw [Jj]; unfold PyData.depthAll; exact Nat.max_le.mpr ⟨h x,tN f h r⟩
theorem yU (i:Int):(PyData.int i).canLay0=true:=by unfold PyData.canLay0; rfl
theorem aBl (i:Int):(PyData.int i).depth<=0:=by unfold PyData.depth; exact Qh _
theorem vF (ns:List Int):(PyData.list (ns.map .int)).canLay0=true:=by unfold PyData.canLay0; exact qV _ yU ns
theorem wS (ns:List Int):(PyData.list (ns.map .int)).depth<=1:=by unfold PyData.depth; exact Yx (tN _ aBl ns)
theorem aBm {d:PyData} (h1:d.canLay0=true) (h2:d.depth<=64):SeqAt.shaped d=true:=by
 unfold SeqAt.shaped
 rw [h1,decide_eq_true h2]
 rfl
theorem fZ (ns:List Int):SeqAt.shaped (.list (ns.map .int))=true:=aBm (vF ns) (Qz (wS ns) (by decide))
theorem _root_.L2.Room.u64 {k:Nat} {A:Around} (r:Room k A):A.units+64 < cLine:=by have:=r.un; omega
def aCC (K:PySem.W.Frag):Sp:=fun vs H Q _=>∃ (a:Addr) (ns:List Int) (k:Nat),vs = [.ref a,.int k]/\SqL K H a (ns.map V.int)/\∀ r,Q (.int r) H
theorem aEK:FnScope ["script", "k"] ["script", "k"] (aF aAm):=⟨rfl,rfl,rfl,by decide +kernel,rfl,by decide +kernel,by decide +kernel⟩
theorem aDL {f:Addr} {fd:FuncData} (G:Fn K mg "_law_acell" aAm ["script", "k"] f fd) (B:Bl mg):FnOk P w K mg base CX0 1 f fd ["script", "k"] (aCC K):=by
 refine G.fn.ok aEK (fun vs H Q E h=>?_) (fun cdv A outer s H vs Q E hr h=>?_)
 ·obtain ⟨a,ns,n,rfl,_⟩:=h
  rfl
 ·obtain ⟨a,ns,n,rfl,ha,k⟩:=h
  refine ⟨_,(aD (bT (bB oI (pv 1) (aK aS rfl B.len cU (aA (pv 0) aB)) (bE _))
   (aG (aO (aU eA (pv 0) (pv 1) (fun _ _=>rfl))))
   aW)
  (aG (aO aJ))),?_⟩
  refine ⟨_,rfl,_,rfl,a,_,rfl,.inl ha,_,_,rfl,rfl,_,rfl,?_⟩
  rw [Qb]
  refine eK (fun c=>?_) (fun c=>?_)
  ·have hlt:n < ns.length:=by have:=of_decide_eq_true c; omega
   exact ⟨_,rfl,_,rfl,a,_,n,.int ns[n],rfl,rfl,ha,cI (by rw [Qg,Qc hlt]; rfl),k _⟩
  ·exact k _
def aCD (K:PySem.W.Frag):Sp:=fun vs H Q _=>∃ (a:Addr) (ns:List Int) (k:Nat),vs = [.ref a,.int k]/\SqL K H a (ns.map V.int)/\∀ t q,H t=none->Q (.ref t) (upd H t (.lst [.int q]))
theorem kN:FnScope ["script", "k", "cell", "p", "number", "last", "turn"] ["script", "k"] (aF aAn):=⟨rfl,rfl,rfl,by decide +kernel,rfl,by decide +kernel,by decide +kernel⟩
theorem aDM {f fC:Addr} {fd dC:FuncData} (G:Fn K mg "_law_atape" aAn ["script", "k"] f fd) (B:Bl mg) (GC:Fn K mg "_law_acell" aAm ["script", "k"] fC dC):FnOk P w K mg base CX0 2 f fd ["script", "k"] (aCD K):=by
 have OC:FnOk P w K mg base CX0 1 fC dC ["script", "k"] (aCC K):=aDL GC B
 refine G.fn.ok kN (fun vs H Q E h=>?_) (fun cdv A outer s H vs Q E hr h=>?_)
 ·obtain ⟨a,ns,n,rfl,_⟩:=h
  rfl
 ·obtain ⟨a,ns,n,rfl,ha,k⟩:=h
  have r1:Room 1 _:=hr
  refine ⟨_,(aD (aY (i:=2) kN.nd rfl (Or.inl rfl) (aT GC OC r1 rfl (aA (pv 0) (aA (pv 1) aB))))
  (aD (bT (bB lI (cL pK (pv 2) aJ) aJ (bE _))
   (aG (aO (eM (aA (cL zU (pv 2) aJ) aB))))
   aW)
  (aD (aY (i:=3) kN.nd rfl (Or.inl rfl) aJ)
  (aD (aY (i:=4) kN.nd rfl (Or.inl rfl) aJ)
  (aD (aY (i:=5) kN.nd rfl (Or.inl rfl) (cL pK (cL iH (cL iH (cL nN (cL pK (pv 2) (pv 3)) aJ) (cL nN aJ (pv 1))) aJ) (pv 3)))
  (aD (dZ PassesOwn.never rfl (cK rfl B.range (aA aJ aB)) (aH (i:=6) kN.nd rfl (Or.inl rfl))
   (aD (aY (i:=4) kN.nd rfl (Or.inl rfl) (cL iH (cL nN (pv 4) (pv 3)) (pv 5)))
  (aG (aY (i:=5) kN.nd rfl (Or.inl rfl) (cL pK (cL iH (cL iH (cL nN (pv 5) (pv 5)) (cL nN aJ (pv 1))) (pv 6)) (pv 3))))))
  (aG (aO (eM (aA (pv 4) aB)))))))))),?_⟩
  refine ⟨_,rfl,_,rfl,a,ns,n,rfl,ha,fun c=>?_⟩
  refine ⟨_,rfl,_,_,rfl,rfl,(show (0:Int) < _ by decide),rfl,_,rfl,?_⟩
  refine eK (fun c1=>?_) (fun c1=>?_)
  ·exact ⟨_,rfl,_,_,rfl,rfl,⟨by decide,by decide⟩,sz1 _,fun t ht=>k t _ ht⟩
  ·refine ⟨_,rfl,_,rfl,_,_,rfl,rfl,(show (0:Int) < _ by decide),_,_,rfl,rfl,.inr ⟨by decide,by decide⟩,_,rfl,_,_,rfl,rfl,.inl ⟨by decide,by decide⟩,_,_,rfl,rfl,_,_,rfl,rfl,_,rfl,_,_,rfl,rfl,(show (0:Int) < _ by decide),?_⟩
   have b0:0<=((c % 2305843009213693951*48271+69621*(n:Int)+11) % 2305843009213693951:Int)/\((c % 2305843009213693951*48271+69621*(n:Int)+11) % 2305843009213693951:Int) < 2305843009213693951:=⟨Wc _ (by decide),Yn _ (by decide)⟩
   refine ⟨18,rfl,by decide,by decide,gM (lo:=0) (n:=18) (fun i σ H2=>(∃ nu la v6,σ = [some (.ref a),some (.int n),some (.int c),some (.int 2305843009213693951),some (.int nu),some (.int la),v6]/\0<=la/\la < 2305843009213693951)/\H2=H) ⟨⟨0,_,none,rfl,b0.1,b0.2⟩,rfl⟩ ?_ ?_⟩
   ·rintro i σ H2 hi ⟨⟨nu,la,v6,rfl,h0,h1⟩,rfl⟩
    refine ⟨_,rfl,_,rfl,_,_,rfl,rfl,.inr ⟨by decide,by decide⟩,_,rfl,_,_,rfl,rfl,?_⟩
    refine ⟨_,rfl,_,rfl,_,_,rfl,rfl,.inl ⟨by omega,by omega⟩,_,rfl,_,_,rfl,rfl,.inl ⟨by decide,by decide⟩,_,_,rfl,rfl,_,rfl,_,_,rfl,rfl,_,rfl,_,_,rfl,rfl,(show (0:Int) < _ by decide),?_⟩
    exact ⟨⟨_,_,_,rfl,Wc _ (by decide),Yn _ (by decide)⟩,rfl⟩
   ·rintro σ H2 ⟨⟨nu,la,v6,rfl,h0,h1⟩,rfl⟩
    exact ⟨_,rfl,sz1 _,fun t ht=>k t _ ht⟩
def nB (K:PySem.W.Frag):Sp:=fun vs H Q _=>∃ (t a:Addr) (ns:List Int) (m:Int),vs = [.ref t,.int m]/\fJ K H t a ns/\0 < m/\m < 1267650600228229401496703205376/\∀ r H',0<=r->r < m->But t H H'->fJ K H' t a ns->Q (.int r) H'
theorem wT:FnScope ["tape", "many", "found"] ["tape", "many"] (aF lA):=⟨rfl,rfl,rfl,by decide +kernel,rfl,by decide +kernel,by decide +kernel⟩
theorem aCE {f:Addr} {fd:FuncData} (G:Fn K mg "_law_adigit" lA ["tape", "many"] f fd) (B:Bl mg):FnOk P w K mg base CX0 1 f fd ["tape", "many"] (nB K):=by
 refine G.fn.ok wT (fun vs H Q E h=>?_) (fun cdv A outer s H vs Q E hr h=>?_)
 ·obtain ⟨t,a,ns,m,rfl,_⟩:=h
  rfl
 ·obtain ⟨t,a,ns,m,rfl,⟨q,ht⟩,hm1,hm2,k⟩:=h
  refine ⟨_,(aD (aY (i:=2) wT.nd rfl (Or.inl rfl) (cL pK (aU eA (pv 0) aJ (fun _ _=>rfl)) (pv 1)))
  (aD (iG (cL aB1 (aU eA (pv 0) aJ (fun _ _=>rfl)) (pv 1)) (uD (pv 0) aJ mF))
  (aG (aO (pv 2))))),?_⟩
  refine ⟨_,rfl,t,_,0,.int q,rfl,rfl,SqL.of ht,rfl,_,rfl,_,_,rfl,rfl,hm1,?_⟩
  refine ⟨_,rfl,t,_,0,.int q,rfl,rfl,SqL.of ht,rfl,_,rfl,_,_,rfl,rfl,⟨hm1,hm2⟩,_,rfl,t,_,0,0,rfl,rfl,ht,rfl,?_⟩
  exact ⟨_,rfl,k _ _ (Wc _ (by omega)) (Yn _ hm1) But.at ⟨_,aC⟩⟩
theorem wU (n:Int):∀ (l:List Int) (last:Int),(∀ x∈l,last < x)->l.Pairwise (· < ·)->(∀ x∈l,x < n)->eG n last (l.map .int)=true
 | [],_,_,_,_=>rfl
 | x::r,last,h1,h2,h3=>by
  rw [Jj,hX]
  have h2':=Yo.mp h2
  rw [decide_eq_true (h1 x (Qq ..)),decide_eq_true (h3 x (Qq ..)),wU n r x h2'.1 h2'.2 (fun y hy=>h3 y (Qr _ hy))]
  rfl
theorem aAt {n:Int} {l:List Int} (h0:l≠[]) (h1:∀ x∈l,0<=x/\x < n) (h2:l.Pairwise (· < ·)):cP n (bO l)=true:=by
 have e:cP n (bO l)=(!(l.map PyData.int).isEmpty && eG n (-1) (l.map .int)):=rfl
 rw [e,wU n l (-1) (fun x hx=>by have:=(h1 x hx).1; omega) h2 (fun x hx=>(h1 x hx).2)]
 cases l with
 | nil=>exact absurd rfl h0
 | cons _ _=>rfl
theorem oP (n:Int):∀ (l:List Int) (last:Int),eG n last (l.map .int)=true->l.Pairwise (· < ·)/\∀ x∈l,last < x/\x < n
 | [],_,_=>⟨.nil,fun _ h=>by cases h⟩
 | x::r,last,h=>by
  rw [Jj,hX,Jc,Jc] at h
  obtain ⟨⟨h1,h2⟩,h3⟩:=h
  have h1:=of_decide_eq_true h1
  have h2:=of_decide_eq_true h2
  obtain ⟨i1,i2⟩:=oP n r x h3
  refine ⟨Yo.mpr ⟨fun y hy=>(i2 y hy).1,i1⟩,fun y hy=>?_⟩
  rcases Qm.mp hy with rfl | hy
  ·exact ⟨h1,h2⟩
  ·exact ⟨by have:=(i2 y hy).1; omega,(i2 y hy).2⟩
theorem bL {n:Int} {l:List Int} (h:cP n (bO l)=true):l≠[]/\(∀ x∈l,0<=x/\x < n)/\l.Pairwise (· < ·):=by
 have e:(!(l.map PyData.int).isEmpty && eG n (-1) (l.map .int))=true:=h
 rw [Jc] at e
 obtain ⟨h1,h2⟩:=oP n l (-1) e.2
 refine ⟨fun z=>by rw [z] at e; simp at e,fun x hx=>⟨by have:=(h2 x hx).1; omega,(h2 x hx).2⟩,h1⟩
theorem qW {n:Int}:∀ (l:List Int) (lo:Int),lo<=n->(∀ x∈l,lo<=x/\x < n)->l.Pairwise (· < ·)->(l.length:Int)<=n - lo
 | [],lo,h,_,_=>by simp; omega
 | x::r,lo,h,h1,h2=>by
  have h2':=Yo.mp h2
  have hx:=h1 x (Qq ..)
  have:=qW r (x+1) (by omega) (fun y hy=>⟨by have:=h2'.1 y hy; omega,(h1 y (Qr _ hy)).2⟩) h2'.2
  rw [Jv]
  omega
theorem fM {n:Int} {l:List Int} (hn:0<=n) (h1:∀ x∈l,0<=x/\x < n) (h2:l.Pairwise (· < ·)):(l.length:Int)<=n:=by
 have:=qW l 0 hn h1 h2
 omega
theorem oQ:∀ (a b:List Int),PyData.eqvAll (a.map .int) (b.map .int)=decide (a=b)
 | [],[]=>by simp [PyData.eqvAll]
 | [],_::_=>by simp [PyData.eqvAll]
 | _::_,[]=>by simp [PyData.eqvAll]
 | x::r,y::s=>by
  rw [Jj,Jj,PyData.eqvAll,oQ r s,PyData.eqv]
  by_cases h:x=y
  ·by_cases h2:r=s
   ·simp [h,h2]
   ·simp [h,h2]
  ·simp [h]
theorem nY (a b:List Int):PyData.eqv (.list (a.map .int)) (.list (b.map .int))=decide (a=b):=by rw [PyData.eqv,oQ]
theorem qX {h:Int} {l:List Int}:gF (.int h) l=true↔h∈l:=by
 show (l.any (·==h))=true↔_
 rw [Zk]
 constructor
 ·rintro ⟨x,hx,e⟩
  have:x=h:=by simpa using e
  exact this ▸ hx
 ·exact fun hx=>⟨h,hx,by simp⟩
theorem jR {ws:List (List Int)} {hs:List Int} (h1:hs.length=ws.length) (h2:∀ (j:Nat) (h:Int) (l:List Int),hs[j]?=some h->ws[j]?=some l->h∈l):cR ws (cM hs)=true:=by
 show (decide ((hs.map PyData.int).length=ws.length) && ((hs.map PyData.int).zip ws).all fun p=>gF p.1 p.2)=true
 rw [Qb,decide_eq_true h1,Xe,Jd]
 rintro ⟨d,l⟩ hm
 obtain ⟨j,hj⟩:=Qy.mp hm
 rw [Jn] at hj
 obtain ⟨hj1,hj2⟩:=hj
 have hj1:(hs.map PyData.int)[j]?=some d:=hj1
 have hj2:ws[j]?=some l:=hj2
 rw [Qg] at hj1
 cases q:hs[j]? with
 | none=>rw [q] at hj1; cases hj1
 | some h =>
  rw [q] at hj1
  obtain rfl:PyData.int h=d:=Option.some.inj hj1
  exact qX.mpr (h2 j h l q hj2)
theorem bF {ws:List (List Int)} {hs:List Int} (h:cR ws (cM hs)=true):hs.length=ws.length/\∀ (j:Nat) (h:Int) (l:List Int),hs[j]?=some h->ws[j]?=some l->h∈l:=by
 have h':(decide ((hs.map PyData.int).length=ws.length) && ((hs.map PyData.int).zip ws).all fun p=>gF p.1 p.2)=true:=h
 rw [Qb,Jc,Jd] at h'
 refine ⟨of_decide_eq_true h'.1,fun j h l hj hl=>?_⟩
 refine qX.mp (h'.2 (.int h,l) (Qe (i:=j) ?_))
 rw [Jn]
 exact ⟨by rw [Qg,hj]; rfl,hl⟩
theorem vG {n:Int} {ws:List (List Int)} (h1:1<=n) (h2:n<=6) (h3:ws.length<=12) (h4:∀ l∈ws,cP n (bO l)=true):cG (bY n ws)=true:=by
 show (decide (1<=n) && decide (n<=6) && decide ((ws.map bO).length<=12) && (ws.map bO).all (cP n))=true
 rw [decide_eq_true h1,decide_eq_true h2,Qb,decide_eq_true h3,Xe,Xe,Xe,Jd]
 intro d hd
 obtain ⟨l,hl,rfl⟩:=Jm.mp hd
 exact h4 l hl
theorem nZ {H:Hp} {n:Int} {ws:List (List Int)} {a b:Addr} {ys:List V} (h1:SqT K H a [.int n,.ref b]) (h2:SqT K H b ys) (h3:bA K H (ws.map bO) ys):Den K H (bY n ws) (.ref a) :=
 bH.mpr ⟨a,_,rfl,h1,aX.mpr ⟨_,_,rfl,eJ.mpr rfl,aX.mpr ⟨_,_,rfl,bH.mpr ⟨b,ys,rfl,h2,h3⟩,bD.mpr rfl⟩⟩⟩
def aAu (K:PySem.W.Frag):Sp:=fun vs H Q _=>∃ (t a:Addr) (ns:List Int) (hm wm:Int),vs = [.ref t,.int hm,.int wm]/\fJ K H t a ns/\1<=hm/\hm<=6/\0<=wm/\wm<=12/\∀ n ws p H',cG (bY n ws)=true->(ws.length:Int)<=wm->But t H H'->fJ K H' t a ns->Den K H' (bY n ws) (.ref p)->Q (.ref p) H'
theorem jS:FnScope ["tape", "hands", "works", "n", "often", "found", "k", "able"] ["tape", "hands", "works"] (aF qM):=⟨rfl,rfl,rfl,by decide +kernel,rfl,by decide +kernel,by decide +kernel⟩
theorem aCF {f fD:Addr} {fd fdD:FuncData} (G:Fn K mg "_law_abook" qM ["tape", "hands", "works"] f fd) (B:Bl mg) (GD:Fn K mg "_law_adigit" lA ["tape", "many"] fD fdD) (OD:FnOk P w K mg base CX0 1 fD fdD ["tape", "many"] (nB K)):FnOk P w K mg base CX0 2 f fd ["tape", "hands", "works"] (aAu K):=by
 refine G.fn.ok jS (fun vs H Q E h=>?_) (fun cdv A outer s H vs Q E hr h=>?_)
 ·obtain ⟨t,a,ns,hm,wm,rfl,_⟩:=h
  rfl
 ·obtain ⟨t,a,ns,hm,wm,rfl,hT,hh1,hh6,hw0,hw12,k⟩:=h
  have r1:Room 1 _:=hr
  refine ⟨_,(aD (aY (i:=3) jS.nd rfl (Or.inl rfl) (cL iH aJ (aT GD OD r1 rfl (aA (pv 0) (aA (pv 1) aB)))))
  (aD (aY (i:=4) jS.nd rfl (Or.inr rfl) (cL iH aJ (aT GD OD r1 rfl (aA (pv 0) (aA aJ aB)))))
  (aD (aY (i:=5) jS.nd rfl (Or.inl rfl) (eM aB))
  (aD (dZ PassesOwn.never rfl (cK rfl B.range (aA (aT GD OD r1 rfl (aA (pv 0) (aA (cL iH (pv 2) aJ) aB))) aB)) (aH (i:=6) jS.nd rfl (Or.inl rfl))
   (aD (jL (i:=7) (own:=["hand"]) (fr:=[4,0]) (frn:=["often", "tape"]) (aV (aF qM) ["tape", "hands", "works", "n", "often", "found", "k", "able"] rfl rfl (by decide +kernel)) rfl jS.nd rfl rfl rfl (cK rfl B.range (aA (pv 3) aB))
    (fun _ _ _ _=>(aH (i:=0) (show (["hand", "often", "tape"]:List Str).Nodup by decide +kernel) rfl (Or.inl rfl))) (fun _ _ _ _=>yH (bB oI (aT GD OD r1 rfl (aA (pv 2) (aA aJ aB))) (pv 1) (bE _)))
    (fun _ _ _ _=>(pv 0)))
  (aD (bT (bB (aEA hr.u64) (pv 7) (eM aB) (bE _))
   (aG (aY (i:=7) jS.nd rfl (Or.inl rfl) (eM (aA (aT GD OD r1 rfl (aA (pv 0) (aA (pv 3) aB))) aB))))
   aW)
  (aG (cQ (mG PySem.F.plainAttrs_list PySem.F.slot_list_append PySem.F.type_list_append gO (pv 5) (aA (bQ bI rfl B.tuple bV (aA (pv 7) aB)) aB)))))))
  (aG (aO (gN (aA (pv 3) (aA (bQ bI rfl B.tuple bV (aA (pv 5) aB)) aB))))))))),?_⟩
  refine ⟨_,rfl,_,rfl,t,a,ns,hm,rfl,hT,by omega,by omega,fun r H1 hr0 hr1 b1 T1=>⟨_,_,rfl,rfl,?_⟩⟩
  refine ⟨_,rfl,t,a,ns,4,rfl,T1,by decide,by decide,fun kd H2 hk0 hk1 b2 T2=>⟨_,_,rfl,rfl,?_⟩⟩
  refine ⟨cV (Jo _),fun fl hfl=>?_⟩
  have ntf:t≠fl:=fun z=>T2.ne hfl z.symm
  have s3:=aE.new (o:=.lst []) hfl
  have hfl0:H fl=none:=(b1.trans b2).free hfl (Ne.symm ntf)
  have T3:=T2.same s3
  have b03:=b1.trans (b2.trans (But.of s3))
  have hfl3:upd H2 fl (.lst []) fl=some (.lst []):=aC
  generalize hH3:upd H2 fl (.lst [])=H3 at T3 b03 hfl3 ⊢
  refine ⟨_,rfl,_,rfl,_,_,rfl,rfl,t,a,ns,wm+1,rfl,T3,by omega,by omega,fun m H4 hm0 hm1 b4 T4=>?_⟩
  refine ⟨m,rfl,by omega,by omega,gM (lo:=0) (n:=m.toNat) (fun i σ H5=>∃ (ws:List (List Int)) (xs:List V) (v v2:Option V),σ = [some (.ref t),some (.int hm),some (.int wm),some (.int (1+r)),some (.int (1+kd)),some (.ref fl),v,v2]/\ws.length=i /\
   (∀ l∈ws,cP (1+r) (bO l)=true)/\H5 fl=some (.lst xs)/\bA K H5 (ws.map bO) xs/\But t H H5/\fJ K H5 t a ns)
   ⟨[],[],none,none,rfl,rfl,fun _ h=>(Qo h).elim,b4 fl _ (Ne.symm ntf) hfl3,bD.mpr rfl,b03.trans b4,T4⟩ ?_ ?_⟩
  ·rintro i σ H5 hi ⟨ws,xs,v,v2,rfl,hl,hw,hx,hd,b5,T5⟩
   have hxl:xs.length=i:=by rw [aN hd,Qb,hl]
   have next:∀ (l:List Int) (p:Addr) (H7:Hp),cP (1+r) (bO l)=true->But t H5 H7->fJ K H7 t a ns->SqT K H7 p (l.map V.int) ->
     ∃ xs',H7 fl=some (.lst xs)/\xs'=xs++[.ref p]/\(∀ l2∈ws++[l],cP (1+r) (bO l2)=true)/\bA K (upd H7 fl (.lst xs')) ((ws++[l]).map bO) xs'/\But t H (upd H7 fl (.lst xs'))/\fJ K (upd H7 fl (.lst xs')) t a ns:=by
    intro l p H7 hwk b7 T7 hp7
    have hx7:H7 fl=some (.lst xs):=b7 fl _ (Ne.symm ntf) hx
    have hd7:=T5.denAll b7 (eQ _ dU ws) hd
    have b8:But fl H7 (upd H7 fl (.lst (xs++[.ref p]))):=But.at
    refine ⟨_,hx7,rfl,fun l2 hl2=>?_,?_,fun b o nb hb=>?_,T7.wr b8 ntf⟩
    ·rcases Jk.mp hl2 with h | h
     ·exact hw l2 h
     ·rw [Qu.mp h]; exact hwk
    ·rw [Qx]
     exact eW (b8.denAll hx7 _ _ (eQ _ dU ws) hd7) (aX.mpr ⟨_,_,rfl,aP.mpr ⟨p,rfl,b8.seqT hx7 hp7⟩,bD.mpr rfl⟩)
    ·rw [aI (fun z=>by rw [z,hfl0] at hb; cases hb)]
     exact (b5.trans b7) b o nb hb
   refine ⟨_,rfl,1+r,rfl,by omega,by omega,eC (lo:=0) (n:=(1+r).toNat) (fun σ=>∃ v,σ = [v,some (.int (1+kd)),some (.ref t)]) (fun j ys H6=>∃ l:List Int,ys=l.map V.int/\l.Pairwise (· < ·)/\(∀ x∈l,0<=x/\x < j)/\But t H5 H6/\fJ K H6 t a ns) (cV (by omega)) ⟨none,rfl⟩
    ⟨[],rfl,.nil,fun _ h=>(Qo h).elim,But.refl t H5,T5⟩ ?_ ?_ ?_⟩
   ·rintro j ys H6 ⟨l,rfl,h1,h2,_⟩
    rw [Qb]
    have:=fM (n:=(j:Int)) (by omega) h2 h1
    omega
   ·rintro j ys σ H6 hj ⟨v,rfl⟩ ⟨l,rfl,h1,h2,b6,T6⟩ hz
    refine ⟨_,rfl,t,a,ns,5,rfl,T6,by decide,by decide,fun r7 H7 _ _ b7 T7=>⟨_,rfl,_,_,rfl,rfl,_,rfl,?_⟩⟩
    refine eK (fun c=>?_) (fun c=>?_)
    ·refine ⟨_,rfl,hz,⟨_,rfl⟩,l++[(j:Int)],by simp,List.pairwise_append.mpr ⟨h1,by simp,fun x hx y hy=>?_⟩,fun x hx=>?_,b6.trans b7,T7⟩
     ·rw [Qu.mp hy]; exact (h2 x hx).2
     ·rcases Jk.mp hx with hx | hx
      ·have:=h2 x hx; omega
      ·rw [Qu.mp hx]; omega
    ·refine ⟨⟨_,rfl⟩,l,rfl,h1,fun x hx=>?_,b6.trans b7,T7⟩
     have:=h2 x hx; omega
   ·rintro ys H6 ⟨l,rfl,h1,h2,b6,T6⟩ ap hap
    have hapt:ap≠t:=T6.ne hap
    have s7:=aE.new (o:=.lst (l.map V.int)) hap
    have e7:upd H6 ap (.lst (l.map V.int)) ap=some (.lst (l.map V.int)):=aC
    have b7:=b6.trans (But.of (t:=t) s7)
    have T7:=T6.same s7
    generalize upd H6 ap (.lst (l.map V.int))=H7 at s7 e7 b7 T7 ⊢
    refine ⟨_,rfl,cV (Jo _),fun z hz=>?_⟩
    have s8:=aE.new (o:=.lst []) hz
    refine ⟨.list (l.map .int),.list (([]:List Int).map .int),iF.mpr ⟨ap,rfl,s8.seqL (SqL.of e7)⟩,iF.mpr ⟨z,rfl,SqL.of aC⟩,fY _,fY _,fZ _,fZ _,_,rfl,?_⟩
    rw [nY]
    have e8:=s8 _ _ e7
    have b8:=b7.trans (But.of (t:=t) s8)
    have T8:=T7.same s8
    generalize upd H7 z (.lst [])=H8 at e8 b8 T8 ⊢
    by_cases hln:l = []
    ·rw [decide_eq_true hln]
     refine gQ ?_
     refine ⟨_,rfl,_,rfl,t,a,ns,1+r,rfl,T8,by omega,by omega,fun r9 H9 h90 h91 b9 T9=>⟨sz1 _,fun l9 hl9=>?_⟩⟩
     have s10:=aE.new (o:=.lst [.int r9]) hl9
     have b10:=b8.trans (b9.trans (But.of s10))
     have T10:=T9.same s10
     have e10:upd H9 l9 (.lst [.int r9]) l9=some (.lst [.int r9]):=aC
     generalize upd H9 l9 (.lst [.int r9])=H10 at b10 T10 e10 ⊢
     have hx10:=b10 fl _ (Ne.symm ntf) hx
     refine ⟨_,rfl,.inl ⟨rfl,_,SqL.of hx10⟩,_,rfl,l9,_,rfl,.inl ⟨SqL.of e10,fun q hq=>?_⟩⟩
     have s11:=aE.new (o:=.tup [.int r9]) hq
     obtain ⟨xs',n1,n2,n3,n4,n5,n6⟩:=next [r9] q _ (aAt (by simp) (fun y hy=>by rw [Qu.mp hy]; omega) (by simp)) (b10.trans (But.of s11)) (T10.same s11) (SqT.of aC)
     subst n2
     exact ⟨fl,xs,.ref q,rfl,rfl,n1,by rw [sizeLine_eq]; omega,ws++[[r9]],_,_,_,rfl,by rw [Qk,hl]; rfl,n3,aC,n4,n5,n6⟩
    ·rw [decide_eq_false hln]
     refine eE ?_
     have hx8:=b8 fl _ (Ne.symm ntf) hx
     refine ⟨_,rfl,.inl ⟨rfl,_,SqL.of hx8⟩,_,rfl,ap,_,rfl,.inl ⟨SqL.of e8,fun q hq=>?_⟩⟩
     have s11:=aE.new (o:=.tup (l.map V.int)) hq
     obtain ⟨xs',n1,n2,n3,n4,n5,n6⟩:=next l q _ (aAt hln (fun y hy=>by have:=h2 y hy; omega) h1) (b8.trans (But.of s11)) (T8.same s11) (SqT.of aC)
     subst n2
     exact ⟨fl,xs,.ref q,rfl,rfl,n1,by rw [sizeLine_eq]; omega,ws++[l],_,_,_,rfl,by rw [Qk,hl]; rfl,n3,aC,n4,n5,n6⟩
  ·rintro σ H5 ⟨ws,xs,v,v2,rfl,hl,hw,hx,hd,b5,T5⟩
   refine ⟨_,rfl,_,rfl,fl,_,rfl,.inl ⟨SqL.of hx,fun q hq=>⟨sz2 _ _,fun p hp=>?_⟩⟩⟩
   have sm:=(aE.new (o:=.tup xs) hq).trans (aE.new (o:=.tup [.int (1+r),.ref q]) hp)
   refine k (1+r) ws p _ (vG (by omega) (by omega) (by omega) hw) (by omega) (b5.trans (But.of sm)) (T5.same sm) ?_
   refine nZ (SqT.of aC) ((aE.new hp).seqT (SqT.of aC)) (sm.denAll _ _ hd)
def aCG (K:PySem.W.Frag):Sp:=fun vs H Q _=>∃ (t a:Addr) (ns:List Int) (x:V) (n:Int) (ws:List (List Int)),vs = [.ref t,x]/\fJ K H t a ns/\Den K H (bY n ws) x/\cG (bY n ws)=true/\∀ hs p H',cR ws (cM hs)=true->But t H H'->fJ K H' t a ns->Den K H' (cM hs) (.ref p)->Q (.ref p) H'
theorem aEL:FnScope ["tape", "book"] ["tape", "book"] (aF qN):=⟨rfl,rfl,rfl,by decide +kernel,rfl,by decide +kernel,by decide +kernel⟩
theorem aDN {f fD:Addr} {fd fdD:FuncData} (G:Fn K mg "_law_adeal" qN ["tape", "book"] f fd) (B:Bl mg) (GD:Fn K mg "_law_adigit" lA ["tape", "many"] fD fdD) (OD:FnOk P w K mg base CX0 1 fD fdD ["tape", "many"] (nB K)):FnOk P w K mg base CX0 2 f fd ["tape", "book"] (aCG K):=by
 refine G.fn.ok aEL (fun vs H Q E h=>?_) (fun cdv A outer s H vs Q E hr h=>?_)
 ·obtain ⟨t,a,ns,x,n,ws,rfl,_⟩:=h
  rfl
 ·obtain ⟨t,a,ns,x,n,ws,rfl,hT,hx,hb,k⟩:=h
  refine ⟨_,aG (aO (bQ bI rfl B.tuple bV (aA
   (bR (own:=["able"]) (fr:=[0]) (frn:=["tape"]) (aV (aF qN) ["tape", "book"] rfl rfl (by decide +kernel)) rfl (eL (aU aZ (pv 1) aJ (fun _ _=>rfl)))
    (fun _ _ _ _=>aH (i:=0) (show (["able", "tape"]:List Str).Nodup by decide +kernel) rfl (Or.inl rfl)) (fun _ _ _ _=>cA)
    (fun _ _ _ _=>aU (eD (K:=K) rfl) (pv 0) (aT GD OD hr rfl (aA (pv 1) (aA (aK (iR (K:=K) rfl) rfl B.len cU (aA (pv 0) aB)) aB))) (fun _ _=>rfl))) aB))),?_⟩
  obtain ⟨hn1,hn6,h12,hws⟩:=bC hb
  obtain ⟨ba,bb,ys,rfl,ha,hb2,hys⟩:=bS hx
  have hlw:=aN hys
  rw [Qb] at hlw
  refine ⟨_,rfl,ba,_,1,.ref bb,rfl,rfl,ha,rfl,bb,rfl,⟨_,hb2⟩,gY (K:=K) (a:=bb) (xs:=ys) (fun σ=>∃ v,σ = [v,some (.ref t)]) (fun i zs H3=>∃ hs:List Int,zs=hs.map V.int/\hs.length=i/\(∀ (j:Nat) (h:Int) (l:List Int),hs[j]?=some h->ws[j]?=some l->h∈l)/\But t H H3/\fJ K H3 t a ns)
   (cV (by omega)) ⟨none,rfl⟩ ⟨[],rfl,rfl,fun j h l e=>by simp at e,But.refl t H,hT⟩ ?_ ?_ ?_ ?_⟩
  ·rintro i zs H3 ⟨hs,rfl,rfl,_⟩
   rw [Qb]
   exact Qh _
  ·rintro i zs H3 ⟨hs,rfl,rfl,_,b3,_⟩
   exact hT.seqT b3 hb2
  ·rintro i zs σ x H3 hxi ⟨v,rfl⟩ ⟨hs,rfl,hl,hg,b3,T3⟩ hz
   obtain ⟨dx,hdx,hden⟩:=cC hys hxi
   rw [Qg] at hdx
   obtain ⟨l,hli,rfl⟩:∃ l,ws[i]?=some l/\bO l=dx:=by
    cases q:ws[i]? with
    | none=>rw [q] at hdx; cases hdx
    | some l=>rw [q] at hdx; exact ⟨l,rfl,Option.some.inj hdx⟩
   obtain ⟨w1,w2,w3⟩:=bL (hws l (Qe hli))
   have hsh:=fM (by omega) w2 w3
   have hl1:0 < l.length:=Yj.mpr w1
   obtain ⟨av,rfl,hav⟩:=aP.mp hden
   refine bK ?_
   refine ⟨_,rfl,_,rfl,_,rfl,av,_,rfl,.inr (hT.seqT b3 hav),t,a,ns,_,rfl,T3,?_,?_,fun r H4 hr0 hr1 b4 T4=>?_⟩
   ·rw [Qb]; omega
   ·rw [Qb]; omega
   ·rw [Qb] at hr1
    have hlt:r.toNat < l.length:=by omega
    have hat:atI (l.map V.int) r=some (.int l[r.toNat]):=by
     have h1:(l.map V.int)[r.toNat]?=some (.int (l[r.toNat])):=by rw [Qg,Qc hlt]; rfl
     have h2:=cI h1
     rwa [Xr hr0] at h2
    refine ⟨av,_,_,_,rfl,rfl,hT.seqT (b3.trans b4) hav,hat,hz,⟨_,rfl⟩,hs++[l[r.toNat]],by simp,by rw [Qk,hl]; rfl,fun j h l2 e1 e2=>?_,b3.trans b4,T4⟩
    by_cases hj:j < hs.length
    ·rw [Qs hj] at e1
     exact hg j h l2 e1 e2
    ·rw [Qw (by omega)] at e1
     have e3:j - hs.length=0:=by
      have:=(Qd.mp e1).1
      simp at this
      omega
     rw [e3] at e1
     have e4:j=i:=by omega
     rw [e4,hli] at e2
     obtain rfl:=Option.some.inj e2
     have e5:l[r.toNat]=h:=by simpa using e1
     rw [<- e5]
     exact Xg hlt
  ·rintro zs H3 ⟨hs,rfl,hl,hg,b3,T3⟩ p hp
   refine ⟨p,_,rfl,.inl ⟨SqL.of aC,fun q hq=>?_⟩⟩
   have sm:=(aE.new (o:=.lst (hs.map V.int)) hp).trans (aE.new (o:=.tup (hs.map V.int)) hq)
   exact k hs q _ (jR (by omega) hg) (b3.trans (But.of sm)) (T3.same sm) (aP.mpr ⟨q,rfl,SqT.of aC⟩)
end
theorem iS {l:List Int} {i:Nat} {v:V} (h:(l.map V.int)[i]?=some v):∃ x,l[i]?=some x/\V.int x=v:=by
 rw [Qg] at h
 cases q:l[i]? with
 | none=>rw [q] at h; cases h
 | some x=>rw [q] at h; exact ⟨x,rfl,Option.some.inj h⟩
theorem nC {n i:Nat} {v:V} (h:((List.replicate n true).map V.bl)[i]?=some v):v=.bl true:=by
 obtain ⟨b,hb,rfl⟩:=Jm.mp (Qe h)
 rw [Zo hb]
def nD (m:Nat) (row:List Int):Prop:=row.length=m/\(∀ c∈row,0<=c/\c<=999)/\row.Pairwise (·<=·)
def cB (n:Int) (m:Nat) (cs:List (List Int)):Prop:=cs.length=n.toNat/\∀ row∈cs,nD m row
def gH (cs:List (List Int)):PyData:=.tuple (cs.map bO)
def cN (row:List Int) (load:Nat) (price:Int):Bool:=!(decide (0 < load) && decide (price < row.getD (load - 1) 0)) && (decide (load=row.length) || decide (price<=row.getD load 0))
theorem atD {row:List Int} {i:Nat} (h:i < row.length):atI (row.map V.int) (i:Int)=some (.int (row.getD i 0)):=cI (by rw [Qg,Qn,Qc h]; rfl)
section
variable {P:Program} {w:World} {K:PySem.W.Frag} {mg:Str->Option Value} {base:Heap}
variable {fW fH fK fB fNB fD fND fL:Addr} {dW dH dK dB dNB dD dND dL:FuncData}
def tO (K:PySem.W.Frag):Sp:=fun vs H Q _=>∃ (m:Nat) (p:Addr) (row:List Int),vs = [.int m,.ref p]/\SqT K H p (row.map V.int)/\nD m row/\m<=12/\∀ H',aE H H'->Q (.bl true) H'
theorem aBn:FnScope ["many", "thing"] ["many", "thing"] (aF iY):=⟨rfl,rfl,rfl,by decide +kernel,rfl,by decide +kernel,by decide +kernel⟩
theorem yV {f:Addr} {fd:FuncData} (G:Fn K mg "is_cost_row" iY ["many", "thing"] f fd) (B:Bl mg) (R:Pr K mg fW fH fK fB fNB fD fND fL dW dH dK dB dNB dD dND dL):FnOk P w K mg base CX0 2 f fd ["many", "thing"] (tO K):=by
 have OW:FnOk P w K mg base CX0 1 fW dW ["thing"] (jO K):=jB R.W B
 refine G.fn.ok aBn (fun vs H Q E h=>?_) (fun cdv A outer s H vs Q E hr h=>?_)
 ·obtain ⟨m,p,row,rfl,_⟩:=h
  rfl
 ·obtain ⟨m,p,row,rfl,hp,⟨hlen,hrng,hris⟩,hm12,k⟩:=h
  obtain ⟨t999,h999⟩:=B.mc
  have r1:Room 1 _:=hr
  refine ⟨_,(aD (bT (PW.pt (gA (cF (cJ (aK bN rfl B.isinstance iA (aA (pv 1) (aA (dO (v:=.ty "tuple") rfl B.tuple bV rfl) aB))))) (eT (bB gW (aK aS rfl B.len cU (aA (pv 1) aB)) (pv 0) (bE _)))))
   (aG (aO cE))
   aW)
  (aD (bT (cF (cJ (aK (eN rfl) rfl B.all kK (aA (bR (own:=["cost"]) (fr:=[]) (frn:=[]) (aV (aF iY) ["many", "thing"] rfl rfl (by decide +kernel)) rfl (eL (pv 1))
    (fun _ _ _ _=>(aH (i:=0) (show (["cost"]:List Str).Nodup by decide +kernel) rfl (Or.inl rfl))) (fun _ _ _ _=>cA)
    (fun _ _ _ _=>(jI (aT R.W OW r1 rfl (aA (pv 0) aB)) (jH (vQ mC mC aJ (pv 0) (uB (v:=.int 999) rfl h999 ⟨t999,rfl⟩)))))) aB))))
   (aG (aO cE))
   aW)
  (aG (aO (aK (eN rfl) rfl B.all kK (aA (bR (own:=["cost", "behind"]) (fr:=[]) (frn:=[]) (aV (aF iY) ["many", "thing"] rfl rfl (by decide +kernel)) rfl (lQ .t .t rfl B.zip (aA (pv 1) (aA (kF uI (pv 1) (mE aJ) mD) aB)))
    (fun _ _ _ _=>(jP (K:=K) (n:=2) rfl rfl (aQ (aH (i:=0) (show (["cost", "behind"]:List Str).Nodup by decide +kernel) rfl (Or.inl rfl)) (aQ (aH (i:=1) (show (["cost", "behind"]:List Str).Nodup by decide +kernel) rfl (Or.inl rfl)) cH)))) (fun _ _ _ _=>cA)
    (fun _ _ _ _=>(eX mC (pv 0) (pv 1) (bE _)))) aB)))))),?_⟩
  refine ⟨_,rfl,.ref p,.tup,rfl,.inr (.inl ⟨rfl,_,hp⟩),_,rfl,?_⟩
  refine eE ?_
  refine ⟨_,rfl,p,_,rfl,.inr hp,_,rfl,rfl,_,rfl,?_⟩
  rw [Qb,hlen,show (!decide (V.int (m:Int)=V.int (m:Int)))=false by simp]
  refine eE ?_
  refine ⟨_,rfl,p,rfl,⟨_,hp⟩,mP (K:=K) (a:=p) (xs:=row.map V.int) (vs:=(List.replicate row.length true).map V.bl) (fun σ=>∃ v,σ = [v]) (by rw [Qb]; omega) (by rw [Qb,Ji,Qb]) hp ⟨none,rfl⟩ ?_ ?_⟩
  ·rintro i xv v σ H2 hxv hv ⟨v0,rfl⟩ s2 Q' hQ'
   obtain ⟨r,hr',rfl⟩:=iS hxv
   obtain ⟨r0,r12⟩:=hrng r (Qe hr')
   obtain rfl:=nC hv
   refine ⟨_,rfl,_,.int r,rfl,eJ.mpr rfl,_,rfl,?_⟩
   refine gQ ?_
   refine ⟨_,rfl,_,_,rfl,rfl,_,rfl,?_⟩
   rw [decide_eq_true r0]
   refine gQ ?_
   refine ⟨_,_,rfl,rfl,?_⟩
   have e12:decide (r<=999)=true:=decide_eq_true r12
   dsimp only
   rw [e12]
   exact hQ' _ _ ⟨_,rfl⟩ (aE.refl _)
  ·rintro H2 s2 z hz
   refine ⟨z,_,rfl,SqL.of aC,_,rfl,?_⟩
   rw [show (List.replicate row.length true).all id=true by simp]
   refine eE ?_
   have s3:=s2.trans (aE.new (o:=.lst ((List.replicate row.length true).map V.bl)) hz)
   generalize upd H2 z (.lst ((List.replicate row.length true).map V.bl))=H3 at s3 ⊢
   have hp3:=s3.seqT hp
   refine ⟨_,rfl,_,rfl,_,rfl,p,_,rfl,hp3,fun q H4 s4 hq=>?_⟩
   rw [show (1:Int)=((1:Nat):Int) from rfl,aA1] at hq
   have hp4:=s4.seqT hp3
   refine ⟨p,q,_,_,rfl,hp4,hq,aBg (K:=K) (k1:=.t) (k2:=.t) (a:=p) (b:=q) (xs:=row.map V.int) (zs:=(row.map V.int).drop 1) (vs:=(List.replicate (row.length - 1) true).map V.bl) (fun σ=>∃ v0 v1,σ = [v0,v1]) (by rw [Xd,Qb]; omega) (by rw [Xd]; omega) (by rw [Qb,Ji,Xd,Qb]) (fun H' s'=>⟨s'.seqT hp4,s'.seqT hq⟩) ⟨none,none,rfl⟩ ?_ ?_⟩
   ·rintro i xv zv v pr σ H5 hxv hzv hv hpr ⟨v0,v1,rfl⟩ s5 Q' hQ'
    obtain ⟨x,hx,rfl⟩:=iS hxv
    rw [Yp] at hzv
    obtain ⟨y,hy,rfl⟩:=iS hzv
    obtain rfl:=nC hv
    refine ⟨pr,_,rfl,SqT.of aC,rfl,_,_,rfl,_,_,rfl,rfl,?_⟩
    refine ⟨_,rfl,_,rfl,_,_,rfl,rfl,?_⟩
    have hle:x<=y:=by
     obtain ⟨h1,e1⟩:=Qd.mp hx
     obtain ⟨h2,e2⟩:=Qd.mp hy
     rw [<- e1,<- e2]
     exact Zi.mp hris _ _ h1 h2 (by omega)
    dsimp only
    rw [decide_eq_true hle]
    exact hQ' _ _ ⟨_,_,rfl⟩ (aE.new hpr)
   ·rintro H5 s5 z2 hz2
    refine ⟨z2,_,rfl,SqL.of aC,?_⟩
    rw [show (List.replicate (row.length - 1) true).all id=true by simp]
    exact k _ (s3.trans (s4.trans (s5.trans (aE.new hz2))))
def qY (K:PySem.W.Frag):Sp:=fun vs H Q _=>∃ (x:V) (q:Addr) (n:Int) (ws cs:List (List Int)),vs = [x,.ref q]/\Den K H (bY n ws) x/\cG (bY n ws)=true/\Den K H (gH cs) (.ref q)/\cB n ws.length cs/\∀ H',aE H H'->Q (.bl true) H'
theorem yW:FnScope ["book", "thing"] ["book", "thing"] (aF iZ):=⟨rfl,rfl,rfl,by decide +kernel,rfl,by decide +kernel,by decide +kernel⟩
theorem wV {f fC:Addr} {fd dC:FuncData} (G:Fn K mg "are_costs" iZ ["book", "thing"] f fd) (B:Bl mg) (R:Pr K mg fW fH fK fB fNB fD fND fL dW dH dK dB dNB dD dND dL) (GCR:Fn K mg "is_cost_row" iY ["many", "thing"] fC dC):FnOk P w K mg base CX0 5 f fd ["book", "thing"] (qY K):=by
 have ONB:FnOk P w K mg base CX0 4 fNB dNB ["book"] (pC K):=qR B R
 have OCR:FnOk P w K mg base CX0 2 fC dC ["many", "thing"] (tO K):=yV GCR B R
 refine G.fn.ok yW (fun vs H Q E h=>?_) (fun cdv A outer s H vs Q E hr h=>?_)
 ·obtain ⟨x,q,n,ws,cs,rfl,_⟩:=h
  rfl
 ·obtain ⟨x,q,n,ws,cs,rfl,hx,hb,hq,⟨hcl,hcr⟩,k⟩:=h
  have r4:Room 4 _:=hr
  have r2:Room 2 _:=hr.mono (by decide)
  refine ⟨_,(aD (cQ (aT R.NB ONB r4 rfl (aA (pv 0) aB)))
  (aD (bT (PW.pt (gA (cF (cJ (aK bN rfl B.isinstance iA (aA (pv 1) (aA (dO (v:=.ty "tuple") rfl B.tuple bV rfl) aB))))) (eT (bB gW (aK aS rfl B.len cU (aA (pv 1) aB)) (aU aZ (pv 0) aJ (fun _ _=>rfl)) (bE _)))))
   (aG (aO cE))
   aW)
  (aG (aO (aK (eN rfl) rfl B.all kK (aA (bR (own:=["row"]) (fr:=[0]) (frn:=["book"]) (aV (aF iZ) ["book", "thing"] rfl rfl (by decide +kernel)) rfl (eL (pv 1))
    (fun _ _ _ _=>(aH (i:=0) (show (["row", "book"]:List Str).Nodup by decide +kernel) rfl (Or.inl rfl))) (fun _ _ _ _=>cA)
    (fun _ _ _ _=>(aT GCR OCR r2 rfl (aA (aK (iR (K:=K) rfl) rfl B.len cU (aA (aU (eD (K:=K) rfl) (pv 1) aJ (fun _ _=>rfl)) aB)) (aA (pv 0) aB))))) aB)))))),?_⟩
  obtain ⟨hn1,hn6,hw12,hws⟩:=bC hb
  refine ⟨_,rfl,x,_,rfl,hx,hb,fun H1 s1=>?_⟩
  obtain ⟨a,b,ys,rfl,ha,hb2,hys⟩:=bS (s1.den _ _ hx)
  have hlw:=aN hys
  rw [Qb] at hlw
  obtain ⟨q',rs,e,hq1,hrs⟩:=bH.mp (s1.den _ _ hq)
  obtain rfl:q=q':=by injection e
  have hlr:=aN hrs
  rw [Qb] at hlr
  refine ⟨_,rfl,.ref q,.tup,rfl,.inr (.inl ⟨rfl,_,hq1⟩),_,rfl,?_⟩
  refine eE ?_
  refine ⟨_,rfl,q,_,rfl,.inr hq1,_,rfl,a,_,0,.int n,rfl,rfl,ha,rfl,rfl,_,rfl,?_⟩
  have el:decide (V.int (rs.length:Nat)=V.int n)=true:=decide_eq_true (by rw [hlr,hcl]; congr 1; omega)
  rw [el]
  refine eE ?_
  refine ⟨_,rfl,q,rfl,⟨_,hq1⟩,mP (K:=K) (a:=q) (xs:=rs) (vs:=(List.replicate rs.length true).map V.bl) (fun σ=>∃ v,σ = [v,some (.ref a)]) (by omega) (by rw [Qb,Ji]) hq1 ⟨none,rfl⟩ ?_ ?_⟩
  ·rintro i xv v σ H2 hxv hv ⟨v0,rfl⟩ s2 Q' hQ'
   obtain rfl:=nC hv
   obtain ⟨dv,hdv,denv⟩:=cC hrs hxv
   rw [Qg] at hdv
   obtain ⟨row,hrow,rfl⟩:∃ l,cs[i]?=some l/\bO l=dv:=by
    cases q:cs[i]? with
    | none=>rw [q] at hdv; cases hdv
    | some l=>rw [q] at hdv; exact ⟨l,rfl,Option.some.inj hdv⟩
   obtain ⟨aw,rfl,haw⟩:=aP.mp denv
   refine ⟨_,rfl,a,_,1,.ref b,rfl,rfl,s2.seqT ha,rfl,b,ys,rfl,.inr (s2.seqT hb2),_,rfl,ys.length,aw,row,rfl,s2.seqT haw,by rw [hlw]; exact hcr row (Qe hrow),by omega,fun H3 s3=>?_⟩
   exact hQ' _ _ ⟨_,rfl⟩ s3
  ·rintro H2 s2 z hz
   refine ⟨z,_,rfl,SqL.of aC,?_⟩
   rw [show (List.replicate rs.length true).all id=true by simp]
   exact k _ ((s1.trans s2).trans (aE.new hz))
def nE (K:PySem.W.Frag):Sp:=fun vs H Q _=>∃ (x:V) (q:Addr) (n:Int) (ws cs:List (List Int)),vs = [x,.ref q]/\Den K H (bY n ws) x/\cG (bY n ws)=true/\Den K H (gH cs) (.ref q)/\cB n ws.length cs/\∀ H',aE H H'->Q .non H'
theorem aDO:FnScope ["book", "costs"] ["book", "costs"] (aF nV):=⟨rfl,rfl,rfl,by decide +kernel,rfl,by decide +kernel,by decide +kernel⟩
theorem aCH {f fA:Addr} {fd dA:FuncData} (G:Fn K mg "need_costs" nV ["book", "costs"] f fd) (GA:Fn K mg "are_costs" iZ ["book", "thing"] fA dA) (OA:FnOk P w K mg base CX0 5 fA dA ["book", "thing"] (qY K)):FnOk P w K mg base CX0 6 f fd ["book", "costs"] (nE K):=by
 refine G.fn.ok aDO (fun vs H Q E h=>?_) (fun cdv A outer s H vs Q E hr h=>?_)
 ·obtain ⟨x,q,n,ws,cs,rfl,_⟩:=h
  rfl
 ·obtain ⟨x,q,n,ws,cs,rfl,hx,hb,hq,hc,k⟩:=h
  refine ⟨_,aG (bT (cF (cJ (aT GA OA hr rfl (aA (pv 0) (aA (pv 1) aB))))) kU aW),?_⟩
  refine ⟨_,rfl,_,rfl,x,q,n,ws,cs,rfl,hx,hb,hq,hc,fun H' s'=>⟨_,rfl,?_⟩⟩
  refine eE ?_
  exact k H' s'
def tP (K:PySem.W.Frag):Sp:=fun vs H Q _=>∃ (p:Addr) (row:List Int) (l:Nat) (pr:Int),vs = [.ref p,.int l,.int pr]/\SqT K H p (row.map V.int)/\l<=row.length/\Q (.bl (cN row l pr)) H
theorem aBo:FnScope ["row", "load", "price"] ["row", "load", "price"] (aF mU):=⟨rfl,rfl,rfl,by decide +kernel,rfl,by decide +kernel,by decide +kernel⟩
theorem yX {f:Addr} {fd:FuncData} (G:Fn K mg "is_price" mU ["row", "load", "price"] f fd) (B:Bl mg):FnOk P w K mg base CX0 1 f fd ["row", "load", "price"] (tP K):=by
 refine G.fn.ok aBo (fun vs H Q E h=>?_) (fun cdv A outer s H vs Q E hr h=>?_)
 ·obtain ⟨p,row,l,pr,rfl,_⟩:=h
  rfl
 ·obtain ⟨p,row,l,pr,rfl,hp,hl,k⟩:=h
  refine ⟨_,(aD (bT (PW.pt (xV (bB zY (pv 1) aJ (bE _)) (uC (bB oI (pv 2) (aU aZ (pv 0) (cL xY (pv 1) aJ) (fun _ _=>rfl)) (bE _)))))
   (aG (aO cE))
   aW)
  (aG (aO (aE3 (eX lI (pv 1) (aK aS rfl B.len cU (aA (pv 0) aB)) (bE _)) (jH (eX mC (pv 2) (aU aZ (pv 0) (pv 1) (fun _ _=>rfl)) (bE _))))))),?_⟩
  refine ⟨_,rfl,_,_,rfl,rfl,_,rfl,?_⟩
  refine eK (fun c=>?_) (fun c=>?_)
  ·have h0:0 < l:=by have:=of_decide_eq_true c; omega
   refine ⟨_,rfl,_,rfl,_,rfl,_,_,rfl,rfl,p,_,((l - 1:Nat):Int),_,rfl,by rw [show ((l - 1:Nat):Int)=(l:Int) - 1 by omega],hp,atD (show l - 1 < row.length by omega),_,_,rfl,rfl,_,rfl,?_⟩
   refine eK (fun c2=>?_) (fun c2=>?_)
   ·have e2:cN row l pr=false:=by unfold cN; rw [decide_eq_true h0,decide_eq_true (of_decide_eq_true c2)]; rfl
    rw [e2] at k
    exact k
   ·have c2':¬ pr < row.getD (l - 1) 0:=fun z=>c2 (decide_eq_true z)
    refine ⟨_,rfl,_,rfl,p,_,rfl,.inr hp,rfl,_,rfl,?_⟩
    by_cases e:l=row.length
    ·rw [decide_eq_true (by rw [Qb,e]:V.int (l:Int)=V.int ((row.map V.int).length:Int))]
     refine gQ ?_
     have e2:cN row l pr=true:=by unfold cN; rw [decide_eq_true h0,decide_eq_false c2',decide_eq_true e]; rfl
     rw [e2] at k
     exact k
    ·rw [decide_eq_false (fun z:V.int (l:Int)=V.int ((row.map V.int).length:Int)=>e (by rw [Qb] at z; injection z with z; omega))]
     refine eE ?_
     refine ⟨_,rfl,_,rfl,_,rfl,p,_,l,_,rfl,rfl,hp,atD (by omega),_,_,rfl,rfl,?_⟩
     have e2:cN row l pr=decide (pr<=row.getD l 0):=by unfold cN; rw [decide_eq_true h0,decide_eq_false c2',decide_eq_false e]; rfl
     rw [e2] at k
     exact k
  ·have h0:¬ 0 < l:=fun z=>c (decide_eq_true (by omega))
   refine ⟨_,rfl,_,rfl,p,_,rfl,.inr hp,rfl,_,rfl,?_⟩
   by_cases e:l=row.length
   ·rw [decide_eq_true (by rw [Qb,e]:V.int (l:Int)=V.int ((row.map V.int).length:Int))]
    refine gQ ?_
    have e2:cN row l pr=true:=by unfold cN; rw [decide_eq_false h0,decide_eq_true e]; rfl
    rw [e2] at k
    exact k
   ·rw [decide_eq_false (fun z:V.int (l:Int)=V.int ((row.map V.int).length:Int)=>e (by rw [Qb] at z; injection z with z; omega))]
    refine eE ?_
    refine ⟨_,rfl,_,rfl,_,rfl,p,_,l,_,rfl,rfl,hp,atD (by omega),_,_,rfl,rfl,?_⟩
    have e2:cN row l pr=decide (pr<=row.getD l 0):=by unfold cN; rw [decide_eq_false h0,decide_eq_false e]; rfl
    rw [e2] at k
    exact k
def qZ (K:PySem.W.Frag):Sp:=fun vs H Q _=>∃ (n:Int) (b:Addr) (hs:List Int),vs = [.int n,.ref b]/\SqL K H b (hs.map V.int)/\0<=n/\n<=6/\∀ p H',aE H H'->H' p=some (.tup ((aL n hs).map V.int))->Q (.ref p) H'
theorem wW {f:Addr} {fd:FuncData} (G:Fn K mg "counted" eP ["hands", "deal"] f fd) (B:Bl mg):FnOk P w K mg base CX0 1 f fd ["hands", "deal"] (qZ K):=by
 refine G.fn.ok tM (fun vs H Q E h=>?_) (fun cdv A outer s H vs Q E hr h=>?_)
 ·obtain ⟨n,b,hs,rfl,_⟩:=h
  rfl
 ·obtain ⟨n,c,hs,rfl,hc,hn1,hn6,k⟩:=h
  refine ⟨_,aG (aO (bQ bI rfl B.tuple bV (aA
    (bR (own:=["hand"]) (fr:=[1]) (frn:=["deal"]) (aV (aF eP) ["hands", "deal"] rfl rfl (by decide +kernel)) rfl (cK rfl B.range (aA (pv 0) aB))
     (fun _ _ _ _=>aH (i:=0) (show (["hand", "deal"]:List Str).Nodup by decide +kernel) rfl (Or.inl rfl)) (fun _ _ _ _=>cA)
     (fun _ _ _ _=>aCB (K:=K) rfl PySem.F.plainAttrs_list PySem.F.slot_list_count PySem.F.type_list_count (aBi (K:=K) rfl) (pv 1) (aA (pv 0) aB))) aB))),?_⟩
  refine ⟨_,rfl,n,rfl,by omega,by omega,eC (lo:=0) (n:=n.toNat) (fun σ=>∃ v,σ = [v,some (.ref c)]) (fun i zs H2=>H2=H/\zs=(((cZ n.toNat).take i).map fun h=>((hs.count h:Nat):Int)).map V.int) ?_ ⟨none,rfl⟩ ⟨rfl,rfl⟩ ?_ ?_ ?_⟩
  ·rw [sizeLine_eq]; omega
  ·rintro i zs H2 ⟨_,rfl⟩
   rw [Qb,Qb,Ja]; omega
  ·rintro i zs σ H2 hi ⟨v,rfl⟩ ⟨rfl,rfl⟩ hz
   refine bK ?_
   refine ⟨_,rfl,.inl ⟨rfl,_,hc⟩,_,rfl,c,hs,_,rfl,rfl,hc,hz,⟨_,rfl⟩,rfl,?_⟩
   rw [Jh,kM hi]
   simp
  ·rintro zs H2 ⟨rfl,rfl⟩ p hp
   refine ⟨p,_,rfl,.inl ⟨SqL.of aC,fun l hl=>?_⟩⟩
   refine k l _ ((aE.new hp).trans (aE.new hl)) ?_
   rw [aC,Jf (by rw [fV]; exact Qh _)]
   rfl
def rA (cs:List (List Int)) (ls:List Int):Prop:=cs.length=ls.length/\cs.length<=6/\∀ (i:Nat) row l,cs[i]?=some row->ls[i]?=some l->0<=l/\l<=row.length/\row.length<=12
theorem dJ {n:Int} {hs:List Int} {j:Nat} (h:j < n.toNat):(aL n hs)[j]?=some ((hs.count (j:Int):Nat):Int):=by
 unfold aL
 rw [Qg,kM h]
 rfl
def nxC (row:List Int) (l:Nat):Int:=row.getD (min l (row.length - 1)) 0
theorem aBp (xs:List V):kG xs (some (-1)) none=xs.drop (xs.length - 1):=by
 unfold kG
 have e:HT.sIx xs.length 0 (some (-1))=xs.length - 1:=by
  show (if (-1:Int) < 0 then ((-1:Int)+(xs.length:Int)).toNat else min (-1:Int).toNat xs.length)=_
  rw [if_pos (by decide)]
  omega
 rw [HT.sIx_none,e,Jf (by rw [Xd]; exact Qh _)]
theorem aFF (row:List Int) (l:Nat) (h:l<=row.length):(row.map V.int++kG (row.map V.int) (some (-1)) none++[V.int 0])[l]?=some (.int (nxC row l)):=by
 rw [aBp,Qb]
 unfold nxC
 rcases Wd l row.length with h1 | h1
 ·rw [Zv,Qs (by rw [Qb]; exact h1),Qg,Yh (by omega),Qn,Qc h1]
  rfl
 ·obtain rfl:l=row.length:=by omega
  cases row with
  | nil=>rfl
  | cons x r =>
   rw [Zv,Qw (by rw [Qb]; exact Qh _),Qb,Xf,Qs (by rw [Xd,Qb]; show 0 < (r.length+1) - (r.length+1 - 1); omega),Yp,Qg,Yy (by omega),Qn,Nat.add_zero]
   rw [Qc (show (x::r).length - 1 < (x::r).length by show r.length+1 - 1 < r.length+1; omega)]
   rfl
def yY (K:PySem.W.Frag):Sp:=fun vs H Q _=>∃ (q p:Addr) (cs:List (List Int)) (ls:List Int),vs = [.ref q,.ref p]/\Den K H (gH cs) (.ref q)/\SqT K H p (ls.map V.int)/\rA cs ls/\∀ (r:Addr) (ns:List Int) H',aE H H'->H r=none->H' r=some (.lst (ns.map V.int))->ns.length=cs.length->(∀ (i:Nat) row l,cs[i]?=some row->ls[i]?=some l->ns[i]?=some (nxC row l.toNat))->Q (.ref r) H'
theorem aEM:FnScope ["costs", "many"] ["costs", "many"] (aF tK):=⟨rfl,rfl,rfl,by decide +kernel,rfl,by decide +kernel,by decide +kernel⟩
theorem aAv {f:Addr} {fd:FuncData} (G:Fn K mg "next_costs" tK ["costs", "many"] f fd) (B:Bl mg):FnOk P w K mg base CX0 1 f fd ["costs", "many"] (yY K):=by
 refine G.fn.ok aEM (fun vs H Q E h=>?_) (fun cdv A outer s H vs Q E hr h=>?_)
 ·obtain ⟨q,p,cs,ls,rfl,_⟩:=h
  rfl
 ·obtain ⟨q,p,cs,ls,rfl,hq,hp,⟨hl1,hl2,hfit⟩,k⟩:=h
  refine ⟨_,(aG (aO (bR (own:=["row", "load"]) (fr:=[]) (frn:=[]) (aV (aF tK) ["costs", "many"] rfl rfl (by decide +kernel)) rfl (lQ .t .t rfl B.zip (aA (pv 0) (aA (pv 1) aB)))
    (fun _ _ _ _=>(jP (K:=K) (n:=2) rfl rfl (aQ (aH (i:=0) (show (["row", "load"]:List Str).Nodup by decide +kernel) rfl (Or.inl rfl)) (aQ (aH (i:=1) (show (["row", "load"]:List Str).Nodup by decide +kernel) rfl (Or.inl rfl)) cH)))) (fun _ _ _ _=>cA)
    (fun _ _ _ _=>(aU (eD (K:=K) rfl) (cL (wB (K:=K) rfl) (cL (wB (K:=K) rfl) (pv 0) (kF (pV (K:=K) rfl) (pv 0) (mE (sU nO aJ)) mD)) (gN (aA aJ aB))) (pv 1) (fun _ _=>rfl)))))),?_⟩
  obtain ⟨q',rs,e,hq1,hrs⟩:=bH.mp hq
  obtain rfl:q=q':=by injection e
  have hlr:=aN hrs
  rw [Qb] at hlr
  refine ⟨_,rfl,_,rfl,q,p,_,_,rfl,hq1,hp,pU (K:=K) (k1:=.t) (k2:=.t) (a:=q) (b:=p) (xs:=rs) (ys:=ls.map V.int) (fun σ=>∃ v0 v1,σ = [v0,v1]) (fun i zs H2=>aE H H2/\∃ ns:List Int,zs=ns.map V.int/\ns.length=i/\∀ (j:Nat) row l,j < i->cs[j]?=some row->ls[j]?=some l->ns[j]?=some (nxC row l.toNat)) (cV (by omega)) (by rw [Qb]; omega) ⟨none,none,rfl⟩ ⟨aE.refl _,[],rfl,rfl,fun j _ _ z=>by omega⟩ ?_ ?_ ?_ ?_⟩
  ·rintro i zs H2 ⟨_,ns,rfl,hn,_⟩
   rw [Qb,hn]
   exact Qh _
  ·rintro i zs H2 ⟨s2,_⟩
   exact ⟨s2.seqT hq1,s2.seqT hp⟩
  ·rintro i zs σ xv yv pr H2 hxv hyv ⟨v0,v1,rfl⟩ ⟨s2,ns,rfl,hn,hns⟩ hpr hz
   obtain ⟨l,hl,rfl⟩:=iS hyv
   obtain ⟨dv,hdv,denv⟩:=cC hrs hxv
   rw [Qg] at hdv
   obtain ⟨row,hrow,rfl⟩:∃ l,cs[i]?=some l/\bO l=dv:=by
    cases q:cs[i]? with
    | none=>rw [q] at hdv; cases hdv
    | some l=>rw [q] at hdv; exact ⟨l,rfl,Option.some.inj hdv⟩
   obtain ⟨aw,rfl,haw⟩:=aP.mp denv
   obtain ⟨f1,f2,f3⟩:=hfit i row l hrow hl
   have s3:=s2.trans (aE.new (o:=.tup [.ref aw,.int l]) hpr)
   refine ⟨pr,_,rfl,SqT.of aC,rfl,_,_,rfl,_,_,rfl,rfl,?_⟩
   generalize upd H2 pr (.tup [.ref aw,.int l])=H3 at s3 ⊢
   have haw3:=s3.seqT haw
   refine vC ?_
   refine ⟨_,rfl,_,rfl,1,rfl,_,rfl,aw,_,rfl,haw3,fun q1 H4 s4 hq1=>?_⟩
   have haw4:=s4.seqT haw3
   have hc1:(kG (row.map V.int) (some (-1)) none).length<=(row.map V.int).length:=oJ _ _ _
   rw [Qb] at hc1
   refine ⟨aw,q1,_,_,rfl,rfl,haw4,hq1,by rw [Qb,sizeLine_eq]; omega,fun q2 H5 s5 hq2=>⟨sz1 _,fun q3 hq3=>?_⟩⟩
   have s6:=aE.new (o:=.tup [.int 0]) hq3
   refine ⟨q2,q3,_,_,rfl,rfl,s6.seqT hq2,SqT.of aC,by rw [Qk,Qb,sizeLine_eq]; show _+1<=_; omega,fun q4 H7 s7 hq4=>?_⟩
   have hat:atI (row.map V.int++kG (row.map V.int) (some (-1)) none++[V.int 0]) l=some (.int (nxC row l.toNat)):=by
    have h2:=cI (aFF row l.toNat (by omega))
    rwa [Xr f1] at h2
   refine ⟨_,rfl,q4,_,l,_,rfl,rfl,hq4,hat,hz,⟨_,_,rfl⟩,s3.trans (s4.trans (s5.trans (s6.trans s7))),ns++[nxC row l.toNat],by rw [Qx]; rfl,by rw [Qk,hn]; rfl,fun j row' l' hj hr' hl'=>?_⟩
   by_cases hji:j < i
   ·rw [Qs (by omega)]; exact hns j row' l' hji hr' hl'
   ·obtain rfl:j=i:=by omega
    rw [hrow] at hr'; rw [hl] at hl'
    rw [<- Option.some.inj hr',<- Option.some.inj hl',Qw (by omega),hn,Xf]
    rfl
  ·rintro zs H2 ⟨s2,ns,rfl,hn,hns⟩ z hz
   exact k z ns _ (s2.trans (aE.new hz)) (by
    cases e:H z with
    | none=>rfl
    | some o=>rw [s2 _ _ e] at hz; cases hz) aC (by rw [hn,hlr]) (fun i row l h1 h2=>hns i row l (by rw [hlr]; exact (Qd.mp h1).1) h1 h2)
theorem lC:∀ {l:List Int},(∀ c∈l,0<=c/\c<=999)->0<=aM l/\aM l<=999*l.length
 | [],_=>⟨Jq _,Jq _⟩
 | x::l,h=>by
  have h1:=h x (Qq ..)
  have h2:=lC fun c hc=>h c (Qr _ hc)
  rw [show aM (x::l)=x+aM l from rfl,Jv]
  omega
theorem lD {n:Int} {ws cs:List (List Int)} {hs:List Int} (hn:n<=6) (hw:ws.length<=12) (hl:hs.length=ws.length) (hc:cB n ws.length cs):rA cs (aL n hs):=by
 refine ⟨by rw [bJ,hc.1],by rw [hc.1]; omega,fun i row l h1 h2=>?_⟩
 have hb:=iC (Qe h2)
 have hr:=(hc.2 row (Qe h1)).1
 omega
theorem nF {H:Hp} {x y:V} {n:Int} {ws:List (List Int)} {hs:List Int} (g:dM K H x y n ws hs):hs.length=ws.length:=(bF g.2.2.2).1
def iB (n:Int) (cs:List (List Int)) (hs:List Int):Int:=aM ((cZ n.toNat).map fun h=>aM ((cs.getD h.toNat []).take (hs.count h)))
def rB (K:PySem.W.Frag):Sp:=fun vs H Q _=>∃ (x y:V) (q:Addr) (n:Int) (ws cs:List (List Int)) (hs:List Int),vs = [x,.ref q,y]/\dM K H x y n ws hs/\Den K H (gH cs) (.ref q)/\cB n ws.length cs/\∀ H',aE H H'->Q (.int (iB n cs hs)) H'
theorem aCI:FnScope ["book", "costs", "deal"] ["book", "costs", "deal"] (aF kZ):=⟨rfl,rfl,rfl,by decide +kernel,rfl,by decide +kernel,by decide +kernel⟩
theorem tQ {f fN fC:Addr} {fd dN dC:FuncData} (G:Fn K mg "cost_of" kZ ["book", "costs", "deal"] f fd) (B:Bl mg) (R:Pr K mg fW fH fK fB fNB fD fND fL dW dH dK dB dNB dD dND dL) (GNC:Fn K mg "need_costs" nV ["book", "costs"] fN dN) (ONC:FnOk P w K mg base CX0 6 fN dN ["book", "costs"] (nE K)) (GCo:Fn K mg "counted" eP ["hands", "deal"] fC dC):FnOk P w K mg base CX0 7 f fd ["book", "costs", "deal"] (rB K):=by
 have OND:FnOk P w K mg base CX0 6 fND dND ["book", "deal"] (mY K):=mZ B R
 have OCo:FnOk P w K mg base CX0 1 fC dC ["hands", "deal"] (jC K):=jQ GCo B
 refine G.fn.ok aCI (fun vs H Q E h=>?_) (fun cdv A outer s H vs Q E hr h=>?_)
 ·obtain ⟨x,y,q,n,ws,cs,hs,rfl,_⟩:=h
  rfl
 ·obtain ⟨x,y,q,n,ws,cs,hs,rfl,g,hq,hc,k⟩:=h
  have r6:Room 6 _:=hr
  have r1:Room 1 _:=hr.mono (by decide)
  refine ⟨_,(aD (cQ (aT R.ND OND r6 rfl (aA (pv 0) (aA (pv 2) aB))))
  (aD (cQ (aT GNC ONC r6 rfl (aA (pv 0) (aA (pv 1) aB))))
  (aG (aO (aK (pR rfl) rfl B.sum wQ (aA (bR (own:=["row", "load"]) (fr:=[]) (frn:=[]) (aV (aF kZ) ["book", "costs", "deal"] rfl rfl (by decide +kernel)) rfl (lQ .t .t rfl B.zip (aA (pv 1) (aA (aT GCo OCo r1 rfl (aA (aU aZ (pv 0) aJ (fun _ _=>rfl)) (aA (pv 2) aB))) aB)))
    (fun _ _ _ _=>(jP (K:=K) (n:=2) rfl rfl (aQ (aH (i:=0) (show (["row", "load"]:List Str).Nodup by decide +kernel) rfl (Or.inl rfl)) (aQ (aH (i:=1) (show (["row", "load"]:List Str).Nodup by decide +kernel) rfl (Or.inl rfl)) cH)))) (fun _ _ _ _=>cA)
    (fun _ _ _ _=>(aK (qE (K:=K) rfl rfl) rfl B.sum wQ (aA (kF (pV (K:=K) rfl) (pv 0) mD (mE (pv 1))) aB)))) aB)))))),?_⟩
  obtain ⟨hn1,hn6,hw12,hws⟩:=bC g.2.1
  have hlen:=nF g
  refine ⟨_,rfl,_,rfl,x,y,n,ws,hs,rfl,g,fun H1 s1=>?_⟩
  refine ⟨_,rfl,_,rfl,x,q,n,ws,cs,rfl,s1.den _ _ g.1,g.2.1,s1.den _ _ hq,hc,fun H2 s2=>?_⟩
  have s12:=s1.trans s2
  obtain ⟨ba,bb,ys,rfl,ha,hb2,hys⟩:=bS (s12.den _ _ g.1)
  obtain ⟨dp,rfl,hdp⟩:=aP.mp (s12.den _ _ g.2.2.1)
  refine ⟨_,rfl,_,rfl,ba,_,0,.int n,rfl,rfl,ha,rfl,_,rfl,n,dp,hs,rfl,hdp,by omega,hn6,fun p H3 s3 hp=>?_⟩
  have s13:=s12.trans s3
  obtain ⟨q',rs,e,hq1,hrs⟩:=bH.mp (s13.den _ _ hq)
  obtain rfl:q=q':=by injection e
  have hlr:=aN hrs
  rw [Qb] at hlr
  obtain ⟨hl1,hl2,hfit⟩:=lD hn6 hw12 hlen hc
  have hp3:SqT K H3 p ((aL n hs).map V.int):=SqT.of hp
  refine ⟨q,p,_,_,rfl,hq1,hp3,pU (K:=K) (k1:=.t) (k2:=.t) (a:=q) (b:=p) (xs:=rs) (ys:=(aL n hs).map V.int) (fun σ=>∃ v0 v1,σ = [v0,v1]) (fun i zs H4=>aE H3 H4/\∃ ns:List Int,zs=ns.map V.int/\ns.length=i/\(∀ c∈ns,0<=c/\c < 1000000)/\ns=((cZ n.toNat).take i).map fun h=>aM ((cs.getD h.toNat []).take (hs.count h))) (cV (by omega)) (by rw [Qb]; omega) ⟨none,none,rfl⟩ ⟨aE.refl _,[],rfl,rfl,fun _ h=>(Qo h).elim,rfl⟩ ?_ ?_ ?_ ?_⟩
  ·rintro i zs H4 ⟨_,ns,rfl,hn,_⟩
   rw [Qb,hn]
   exact Qh _
  ·rintro i zs H4 ⟨s4,_⟩
   exact ⟨s4.seqT hq1,s4.seqT hp3⟩
  ·rintro i zs σ xv yv pr H4 hxv hyv ⟨v0,v1,rfl⟩ ⟨s4,ns,rfl,hn,hns,hnv⟩ hpr hz
   obtain ⟨l,hl,rfl⟩:=iS hyv
   obtain ⟨dv,hdv,denv⟩:=cC hrs hxv
   rw [Qg] at hdv
   obtain ⟨row,hrow,rfl⟩:∃ l,cs[i]?=some l/\bO l=dv:=by
    cases q:cs[i]? with
    | none=>rw [q] at hdv; cases hdv
    | some l=>rw [q] at hdv; exact ⟨l,rfl,Option.some.inj hdv⟩
   obtain ⟨aw,rfl,haw⟩:=aP.mp denv
   obtain ⟨f1,f2,f3⟩:=hfit i row l hrow hl
   obtain ⟨ln,rfl⟩:∃ ln:Nat,l=ln:=⟨l.toNat,by omega⟩
   have s5:=s4.trans (aE.new (o:=.tup [.ref aw,.int ln]) hpr)
   refine ⟨pr,_,rfl,SqT.of aC,rfl,_,_,rfl,_,_,rfl,rfl,?_⟩
   generalize upd H4 pr (.tup [.ref aw,.int ln])=H5 at s5 ⊢
   refine vC ?_
   refine ⟨_,rfl,_,rfl,_,rfl,aw,_,rfl,s5.seqT haw,fun q1 H6 s6 hq1'=>?_⟩
   rw [uJ,<- Wq] at hq1'
   have hrng:=(hc.2 row (Qe hrow)).2.1
   have hb:∀ c∈row.take ln,0<=c/\c<=999:=fun c hcm=>hrng c (Xb hcm)
   have hsb:=lC hb
   have htl:(row.take ln).length<=12:=by rw [Ja]; omega
   refine ⟨q1,row.take ln,rfl,hq1',fun c hcm=>by have:=hb c hcm; omega,by omega,hz,⟨_,_,rfl⟩,s5.trans s6,ns++[aM (row.take ln)],by rw [Qx]; rfl,by rw [Qk,hn]; rfl,fun c hcm=>?_,?_⟩
   ·rcases Jk.mp hcm with h | h
    ·exact hns c h
    ·rw [Qu.mp h]; omega
   ·have hin:i < n.toNat:=by rw [<- hc.1]; exact (Qd.mp hrow).1
    have hlg:=dJ (n:=n) (hs:=hs) hin
    rw [hl] at hlg
    have hcn:hs.count (i:Int)=ln:=by have:=Option.some.inj hlg; omega
    rw [Jh,kM hin,Qx,hnv]
    show _=_++[aM ((cs.getD (i:Int).toNat []).take (hs.count (i:Int)))]
    rw [hcn,Jw,Qn,hrow]
    rfl
  ·rintro zs H4 ⟨s4,ns,rfl,hn,hns,hnv⟩ z hz
   refine ⟨z,ns,rfl,SqL.of aC,hns,by omega,?_⟩
   rw [hnv,Jf (by rw [fV,hlr,hc.1]; exact Qh _)]
   exact k _ (s13.trans (s4.trans (aE.new hz)))
theorem aDP {X:Cx} {K:PySem.W.Frag} {tg l:Expr} {tl:TE} (hK:X.K=K) (hl:PE X l tl):PI X tg l (aFb K tl):=by subst hK; exact eL hl
theorem aBq {α β:Type} {as:List α} {bs:List β} {f:α×β->Bool} (h:∀ (j:Nat) a b,as[j]?=some a->bs[j]?=some b->f (a,b)=true):(as.zip bs).all f=true:=by
 rw [Jd]
 rintro ⟨a,b⟩ hm
 obtain ⟨j,hj⟩:=Qy.mp hm
 obtain ⟨h1,h2⟩:=Jn.mp hj
 exact h j a b h1 h2
theorem yZ {α β:Type} {as:List α} {bs:List β} {f:α×β->Bool} {j:Nat} {a:α} {b:β} (h1:as[j]?=some a) (h2:bs[j]?=some b) (h:f (a,b)=false):(as.zip bs).all f=false:=by
 rw [Bool.eq_false_iff]
 intro z
 have hj:(as.zip bs)[j]?=some (a,b):=Jn.mpr ⟨h1,h2⟩
 have:=Jd.mp z _ (Qe hj)
 rw [h] at this
 cases this
theorem iO {xs:List Int} {i:Nat} {v:V} (h:(xs.map V.int)[i]?=some v):∃ a,xs[i]?=some a/\v=.int a:=by
 rw [Qg] at h
 cases q:xs[i]? with
 | none=>rw [q] at h; cases h
 | some a=>rw [q] at h; exact ⟨a,rfl,(Option.some.inj h).symm⟩
theorem kO {xs:List Int} {h:Int} (h0:0<=h) (h1:h < xs.length):atI (xs.map V.int) h=some (.int (xs.getD h.toNat 0)):=by
 have hlt:h.toNat < xs.length:=by omega
 have h2:=cI (xs:=xs.map V.int) (j:=h.toNat) (v:=.int (xs.getD h.toNat 0)) (by rw [Qg,Qc hlt,Qn,Qc hlt]; rfl)
 rwa [show ((h.toNat:Nat):Int)=h by omega] at h2
def iD (ls:List Int) (p:Int×List Int):Bool:=p.2.all fun o=>decide (ls.getD p.1.toNat 0<=ls.getD o.toNat 0)
def iP (cs:List (List Int)) (ls ps:List Int):List Bool:=(List.range cs.length).map fun i=>cN (cs.getD i []) (ls.getD i 0).toNat (ps.getD i 0)
def eV (n:Int) (ws cs:List (List Int)) (hs ps:List Int):Bool:=decide (ps.length=n.toNat) && ((iP cs (aL n hs) ps).all id && (hs.zip ws).all (iD ps))
theorem dM.hand {H:Hp} {x y:V} {n:Int} {ws:List (List Int)} {hs:List Int} (g:dM K H x y n ws hs) {i:Nat} {h:Int} (e:hs[i]?=some h):0<=h/\h < n:=by
 obtain ⟨_,_,_,hw⟩:=bC g.2.1
 obtain ⟨hl,hd⟩:=bF g.2.2.2
 have hi:i < ws.length:=by rw [<- hl]; exact (Qd.mp e).1
 have hm:=hd i h ws[i] e (Qc hi)
 exact (bL (hw _ (Xg hi))).2.1 h hm
def aAw (K:PySem.W.Frag):Sp:=fun vs H Q _=>∃ (x y:V) (q p:Addr) (n:Int) (ws cs:List (List Int)) (hs ps:List Int),vs = [x,.ref q,y,.ref p]/\dM K H x y n ws hs/\Den K H (gH cs) (.ref q)/\cB n ws.length cs/\SqT K H p (ps.map V.int)/\ps.length<=100/\∀ H',aE H H'->Q (.bl (eV n ws cs hs ps)) H'
theorem aAx:FnScope ["book", "costs", "deal", "prices", "many"] ["book", "costs", "deal", "prices"] (aF lU):=⟨rfl,rfl,rfl,by decide +kernel,rfl,by decide +kernel,by decide +kernel⟩
set_option maxHeartbeats 2000000 in
theorem aCJ {f fN fC fI:Addr} {fd dN dC dI:FuncData} (G:Fn K mg "are_prices" lU ["book", "costs", "deal", "prices"] f fd) (B:Bl mg) (R:Pr K mg fW fH fK fB fNB fD fND fL dW dH dK dB dNB dD dND dL) (GNC:Fn K mg "need_costs" nV ["book", "costs"] fN dN) (ONC:FnOk P w K mg base CX0 6 fN dN ["book", "costs"] (nE K)) (GCo:Fn K mg "counted" eP ["hands", "deal"] fC dC) (GIP:Fn K mg "is_price" mU ["row", "load", "price"] fI dI):FnOk P w K mg base CX0 7 f fd ["book", "costs", "deal", "prices"] (aAw K):=by
 have OND:FnOk P w K mg base CX0 6 fND dND ["book", "deal"] (mY K):=mZ B R
 have OCo:FnOk P w K mg base CX0 1 fC dC ["hands", "deal"] (jC K):=jQ GCo B
 have OW:FnOk P w K mg base CX0 1 fW dW ["thing"] (jO K):=jB R.W B
 have OIP:FnOk P w K mg base CX0 1 fI dI ["row", "load", "price"] (tP K):=yX GIP B
 refine G.fn.ok aAx (fun vs H Q E h=>?_) (fun cdv A outer s H vs Q E hr h=>?_)
 ·obtain ⟨x,y,q,p,n,ws,cs,hs,ls,rfl,_⟩:=h
  rfl
 ·obtain ⟨x,y,q,p,n,ws,cs,hs,ls,rfl,g,hq,hc,hp,hl100,k⟩:=h
  have r6:Room 6 _:=hr
  have r1:Room 1 _:=hr.mono (by decide)
  refine ⟨_,(aD (cQ (aT R.ND OND r6 rfl (aA (pv 0) (aA (pv 2) aB))))
  (aD (cQ (aT GNC ONC r6 rfl (aA (pv 0) (aA (pv 1) aB))))
  (aD (bT (PW.pt (gA (cF (cJ (aK bN rfl B.isinstance iA (aA (pv 3) (aA (dO (v:=.ty "tuple") rfl B.tuple bV rfl) aB))))) (eT (bB gW (aK aS rfl B.len cU (aA (pv 3) aB)) (aU aZ (pv 0) aJ (fun _ _=>rfl)) (bE _)))))
   (aG (aO cE))
   aW)
  (aD (bT (cF (cJ (aK (eN rfl) rfl B.all kK (aA (bR (own:=["price"]) (fr:=[]) (frn:=[]) (aV (aF lU) ["book", "costs", "deal", "prices", "many"] rfl rfl (by decide +kernel)) rfl (eL (pv 3))
    (fun _ _ _ _=>(aH (i:=0) (show (["price"]:List Str).Nodup by decide +kernel) rfl (Or.inl rfl))) (fun _ _ _ _=>cA)
    (fun _ _ _ _=>(aT R.W OW r1 rfl (aA (pv 0) aB)))) aB))))
   (aG (aO cE))
   aW)
  (aD (aY (i:=4) aAx.nd rfl (Or.inl rfl) (aT GCo OCo r1 rfl (aA (aU aZ (pv 0) aJ (fun _ _=>rfl)) (aA (pv 2) aB))))
  (aD (bT (cF (cJ (aK (eN rfl) rfl B.all kK (aA (bR (own:=["row", "load", "price"]) (fr:=[]) (frn:=[]) (aV (aF lU) ["book", "costs", "deal", "prices", "many"] rfl rfl (by decide +kernel)) rfl (aDD .t .t .t rfl B.zip (aA (pv 1) (aA (pv 4) (aA (pv 3) aB))))
    (fun _ _ _ _=>(jP (K:=K) (n:=3) rfl rfl (aQ (aH (i:=0) (show (["row", "load", "price"]:List Str).Nodup by decide +kernel) rfl (Or.inl rfl)) (aQ (aH (i:=1) (show (["row", "load", "price"]:List Str).Nodup by decide +kernel) rfl (Or.inl rfl)) (aQ (aH (i:=2) (show (["row", "load", "price"]:List Str).Nodup by decide +kernel) rfl (Or.inl rfl)) cH))))) (fun _ _ _ _=>cA)
    (fun _ _ _ _=>(aT GIP OIP r1 rfl (aA (pv 0) (aA (pv 1) (aA (pv 2) aB)))))) aB))))
   (aG (aO cE))
   aW)
  (aG (aO (aK (eN rfl) rfl B.all kK (aA (aB8 (own:=["hand", "able", "other"]) (fr:=[3]) (frn:=["prices"]) (aV (aF lU) ["book", "costs", "deal", "prices", "many"] rfl rfl (by decide +kernel)) rfl (lQ .t .t rfl B.zip (aA (pv 2) (aA (aU aZ (pv 0) aJ (fun _ _=>rfl)) aB)))
    (fun _ _ _ _=>(jP (K:=K) (n:=2) rfl rfl (aQ (aH (i:=0) (show (["hand", "able", "other", "prices"]:List Str).Nodup by decide +kernel) rfl (Or.inl rfl)) (aQ (aH (i:=1) (show (["hand", "able", "other", "prices"]:List Str).Nodup by decide +kernel) rfl (Or.inl rfl)) cH)))) (fun _ _ _ _=>(aDP (K:=K) rfl (pv 1))) (fun _ _ _ _=>(aH (i:=2) (show (["hand", "able", "other", "prices"]:List Str).Nodup by decide +kernel) rfl (Or.inl rfl)))
    (fun _ _ _ _=>(eX mC (aU (eD (K:=K) rfl) (pv 3) (pv 0) (fun _ _=>rfl)) (aU (eD (K:=K) rfl) (pv 3) (pv 2) (fun _ _=>rfl)) (bE _)))) aB)))))))))),?_⟩
  obtain ⟨hn1,hn6,hw12,hws⟩:=bC g.2.1
  have hlen:=nF g
  refine ⟨_,rfl,_,rfl,x,y,n,ws,hs,rfl,g,fun H1 s1=>?_⟩
  refine ⟨_,rfl,_,rfl,x,q,n,ws,cs,rfl,s1.den _ _ g.1,g.2.1,s1.den _ _ hq,hc,fun H2 s2=>?_⟩
  have s12:=s1.trans s2
  have g2:=g.same s12
  obtain ⟨a,b,ys,rfl,ha2,_,_⟩:=bS g2.1
  have hp2:=s12.seqT hp
  refine ⟨_,rfl,.ref p,.tup,rfl,.inr (.inl ⟨rfl,_,hp2⟩),_,rfl,?_⟩
  refine eE ?_
  refine ⟨_,rfl,p,_,rfl,.inr hp2,_,rfl,a,_,0,.int n,rfl,rfl,ha2,rfl,rfl,_,rfl,?_⟩
  rw [Qb]
  by_cases heq:ls.length=n.toNat
  case neg =>
   rw [decide_eq_false (fun z:V.int (ls.length:Int)=V.int n=>heq (by injection z with z; omega))]
   refine gQ ?_
   have e:eV n ws cs hs ls=false:=by unfold eV; rw [decide_eq_false heq]; rfl
   rw [e] at k
   exact k _ s12
  rw [decide_eq_true (by congr 1; omega:V.int (ls.length:Int)=V.int n)]
  refine eE ?_
  refine ⟨_,rfl,p,rfl,⟨_,hp2⟩,mP (K:=K) (a:=p) (xs:=ls.map V.int) (vs:=(List.replicate ls.length true).map V.bl) (fun σ=>∃ v,σ = [v]) (by rw [Qb]; omega) (by rw [Qb,Ji,Qb]) hp2 ⟨none,rfl⟩ ?_ ?_⟩
  ·rintro i xv v σ H3 hxv hv ⟨v0,rfl⟩ s3 Q' hQ'
   obtain ⟨r,hr',rfl⟩:=iS hxv
   obtain rfl:=nC hv
   refine ⟨_,rfl,_,.int r,rfl,eJ.mpr rfl,?_⟩
   exact hQ' _ _ ⟨_,rfl⟩ (aE.refl _)
  ·rintro H3 s3 z hz
   refine ⟨z,_,rfl,SqL.of aC,_,rfl,?_⟩
   rw [show (List.replicate ls.length true).all id=true by simp]
   refine eE ?_
   have s4:=(s12.trans s3).trans (aE.new (o:=.lst ((List.replicate ls.length true).map V.bl)) hz)
   generalize upd H3 z (.lst ((List.replicate ls.length true).map V.bl))=H4 at s4 ⊢
   have g4:=g.same s4
   obtain ⟨a',b',ys',e',ha4,hb4,hys4⟩:=bS g4.1
   obtain rfl:a=a':=by injection e'
   obtain ⟨dp,rfl,hdp4⟩:=aP.mp g4.2.2.1
   refine ⟨_,rfl,a,_,0,.int n,rfl,rfl,ha4,rfl,_,rfl,n,dp,hs,rfl,hdp4,by omega,hn6,fun mp H5 s5 hmp=>?_⟩
   have s05:=s4.trans s5
   obtain ⟨q',rs,e,hq1,hrs⟩:=bH.mp (s05.den _ _ hq)
   obtain rfl:q=q':=by injection e
   have hlr:=aN hrs
   rw [Qb] at hlr
   obtain ⟨hl1,hl2,hfit⟩:=lD hn6 hw12 hlen hc
   have hmp5:SqT K H5 mp ((aL n hs).map V.int):=SqT.of hmp
   have hp5:=s05.seqT hp
   have hll:=bJ n hs
   refine ⟨_,rfl,_,rfl,_,rfl,q,mp,p,_,_,_,rfl,hq1,hmp5,hp5,aBh (K:=K) (k1:=.t) (k2:=.t) (k3:=.t) (a:=q) (b:=mp) (d:=p) (xs:=rs) (zs:=(aL n hs).map V.int) (us:=ls.map V.int) (vs:=(iP cs (aL n hs) ls).map V.bl) (fun σ=>∃ v0 v1 v2,σ = [v0,v1,v2]) (by omega) (by rw [Qb]; omega) (by rw [Qb,hlr,hc.1]; exact heq) (by unfold iP; rw [Qb,Qb,Zg]; omega) (fun H' s'=>⟨s'.seqT hq1,s'.seqT hmp5,s'.seqT hp5⟩) ⟨none,none,none,rfl⟩ ?_ ?_⟩
   ·rintro i xv zv uv v pr σ H6 hxv hzv huv hv hpr ⟨v0,v1,v2,rfl⟩ s6 Q' hQ'
    obtain ⟨l,hl,rfl⟩:=iS hzv
    obtain ⟨c,hc',rfl⟩:=iS huv
    obtain ⟨dv,hdv,denv⟩:=cC hrs hxv
    rw [Qg] at hdv
    obtain ⟨row,hrow,rfl⟩:∃ l,cs[i]?=some l/\bO l=dv:=by
     cases q:cs[i]? with
     | none=>rw [q] at hdv; cases hdv
     | some l=>rw [q] at hdv; exact ⟨l,rfl,Option.some.inj hdv⟩
    obtain ⟨aw,rfl,haw⟩:=aP.mp denv
    obtain ⟨f1,f2,f3⟩:=hfit i row l hrow hl
    obtain ⟨ln,rfl⟩:∃ ln:Nat,l=ln:=⟨l.toNat,by omega⟩
    have hil:=(Qd.mp hrow).1
    have ev:v=V.bl (cN row ln c):=by
     unfold iP at hv
     rw [Qg,Qg,Zm hil] at hv
     have:=(Option.some.inj hv).symm
     rw [this]
     show V.bl (cN _ _ _)=_
     rw [Qn,Qn,Qn,hrow,hl,hc']
     rfl
    have s7:=aE.new (o:=.tup [.ref aw,.int ln,.int c]) hpr
    refine ⟨pr,_,rfl,SqT.of aC,rfl,_,_,rfl,_,_,rfl,_,_,rfl,rfl,?_⟩
    refine ⟨_,rfl,_,rfl,_,rfl,aw,row,ln,c,rfl,(s6.trans s7).seqT haw,by omega,?_⟩
    rw [ev] at hQ'
    exact hQ' _ _ ⟨_,_,_,rfl⟩ s7
   ·rintro H6 s6 z2 hz2
    refine ⟨z2,_,rfl,SqL.of aC,_,rfl,?_⟩
    have s3':=s05.trans (s6.trans (aE.new (o:=.lst ((iP cs (aL n hs) ls).map V.bl)) hz2))
    generalize upd H6 z2 (.lst ((iP cs (aL n hs) ls).map V.bl))=H3 at s3' ⊢
    refine eK (fun cb=>?_) (fun cb=>?_)
    ·have e:eV n ws cs hs ls=false:=by
      unfold eV
      rw [decide_eq_true heq]
      cases h:(iP cs (aL n hs) ls).all id with
      | false=>rfl
      | true=>rw [h] at cb; cases cb
     rw [e] at k
     exact k _ s3'
    have hrb:(iP cs (aL n hs) ls).all id=true:=by
     cases h:(iP cs (aL n hs) ls).all id with
     | true=>rfl
     | false=>exact absurd (by rw [h]; rfl) cb
    have elev:eV n ws cs hs ls=(hs.zip ws).all (iD ls):=by unfold eV; rw [hrb,decide_eq_true heq,Xe,Xe]
    rw [elev] at k
    have s3:=s3'
    have g3:=g.same s3
    have hp3:=s3.seqT hp
    obtain ⟨a3,b,ys,e3,ha,hb2,hys⟩:=bS g3.1
    obtain rfl:a=a3:=by injection e3
    obtain ⟨c0,e0,hc0⟩:=aP.mp g3.2.2.1
    obtain rfl:dp=c0:=by injection e0
    have hdp:=hc0
    obtain ⟨hdl,hdg⟩:=bF g.2.2.2
    have hlw:=aN hys
    rw [Qb] at hlw
    let bss:List (List Bool):=(hs.zip ws).map fun p=>p.2.map fun o=>decide (ls.getD p.1.toNat 0<=ls.getD o.toNat 0)
    have hbl:bss.length=hs.length:=by show ((hs.zip ws).map _).length=_; rw [Qb,List.length_zip]; omega
    have hbs:∀ l∈bss,l.length<=6:=fun l hl=>by
     obtain ⟨⟨h,wk⟩,hm,rfl⟩:=Jm.mp hl
     obtain ⟨w1,w2,w3⟩:=bL (hws wk (Yf hm).2)
     have:=fM (by omega) w2 w3
     rw [Qb]
     show wk.length<=6
     omega
    have hfl:(bss.map (List.map V.bl)).flatten.length<=1000:=by
     have:∀ (L:List (List Bool)),(∀ l∈L,l.length<=6)->(L.map (List.map V.bl)).flatten.length<=6*L.length:=fun L=>by
      induction L with
      | nil=>intro _; exact Jo _
      | cons l r ih =>
       intro h
       have h1:=ih fun l' hl'=>h l' (Qr _ hl')
       have h2:=h l (Qq ..)
       rw [Jj,Zf,Qk,Qb,Jv]
       omega
     have:=this bss hbs
     omega
    refine ⟨_,rfl,_,rfl,a,_,1,.ref b,rfl,rfl,ha,rfl,dp,b,_,_,rfl,hdp,hb2,aCa (J:=Itz K .t .t dp b) (n:=hs.length) (vss:=bss.map (List.map V.bl)) (fun σ=>∃ v0 v1 v2,σ = [v0,v1,v2,some (.ref p)]) hfl (by rw [Qb,hbl]) ⟨_,_,_,rfl⟩
     (fun H' s'=>⟨hs.map V.int,ys,s'.seqT hdp,s'.seqT hb2,by rw [Qb]; omega⟩) (fun i H' hi s'=>⟨hs.map V.int,ys,(hs.map V.int)[i]'(by rw [Qb]; exact hi),ys[i]'(by omega),s'.seqT hdp,s'.seqT hb2,Qc _,Qc _⟩) ?_ ?_⟩
    ·rintro i vs x σ H4 H5 hi hv ⟨v0,v1,v2,rfl⟩ s4 ⟨t,ht,rfl,hy⟩ P' hP
     obtain ⟨xh,xw,h1,h2,rfl⟩:=hy _ _ (s4.seqT hdp) (s4.seqT hb2)
     obtain ⟨h,hh,rfl⟩:=iO h1
     obtain ⟨dv,hdv,denv⟩:=cC hys h2
     rw [Qg] at hdv
     obtain ⟨l,hl,rfl⟩:∃ l,ws[i]?=some l/\bO l=dv:=by
      cases q:ws[i]? with
      | none=>rw [q] at hdv; cases hdv
      | some l=>rw [q] at hdv; exact ⟨l,rfl,Option.some.inj hdv⟩
     obtain ⟨aw,rfl,haw⟩:=aP.mp denv
     obtain ⟨hh0,hh1⟩:=g.hand hh
     obtain ⟨w1,w2,w3⟩:=bL (hws l (Qe hl))
     have evs:vs=l.map fun o=>V.bl (decide (ls.getD h.toNat 0<=ls.getD o.toNat 0)):=by
      have hz:(hs.zip ws)[i]?=some (h,l):=Jn.mpr ⟨hh,hl⟩
      have:(bss.map (List.map V.bl))[i]?=some (l.map fun o=>V.bl (decide (ls.getD h.toNat 0<=ls.getD o.toNat 0))):=by
       show (((hs.zip ws).map _).map (List.map V.bl))[i]?=_
       rw [Qg,Qg,hz]
       show some (List.map V.bl (List.map _ l))=_
       rw [Zp]
       rfl
      rw [this] at hv
      exact (Option.some.inj hv).symm
     have s5:aE H4 (upd H4 t (.tup [.int h,.ref aw])):=aE.new ht
     have haw5:=(s4.trans s5).seqT haw
     refine ⟨t,_,rfl,SqT.of aC,rfl,_,_,rfl,_,_,rfl,rfl,?_⟩
     refine ⟨_,rfl,aw,rfl,⟨_,haw5⟩,hP _ _ _ s5 ⟨fun σ=>∃ v2,σ = [some (.int h),some (.ref aw),v2,some (.ref p)],⟨_,rfl⟩,fun σ3 ⟨_,e⟩=>⟨_,_,_,e⟩,fun H' s'=>⟨l.map V.int,s'.seqT haw5,by rw [evs,Qb,Qb]; exact Qh _⟩,fun j H' hj s'=>⟨l.map V.int,(l.map V.int)[j]'(by rw [evs,Qb] at hj; rw [Qb]; exact hj),s'.seqT haw5,Qc _⟩,?_⟩⟩
     rintro j v yv σ3 H6 H7 hvj ⟨v2',rfl⟩ s6 ⟨rfl,hy2⟩ Q' hQ'
     obtain ⟨o,ho,rfl⟩:=iO (hy2 _ (s6.seqT haw5))
     obtain ⟨o0,o1⟩:=w2 o (Qe ho)
     have ev:v=V.bl (decide (ls.getD h.toNat 0<=ls.getD o.toNat 0)):=by
      rw [evs,Qg,ho] at hvj
      exact (Option.some.inj hvj).symm
     have hp7:=((s4.trans s5).trans s6).seqT hp3
     refine ⟨_,rfl,_,rfl,p,_,h,_,rfl,rfl,hp7,kO (xs:=ls) hh0 (by omega),_,rfl,_,rfl,p,_,o,_,rfl,rfl,hp7,kO (xs:=ls) o0 (by omega),_,_,rfl,rfl,?_⟩
     rw [ev] at hQ'
     exact hQ' _ _ ⟨_,rfl⟩ (aE.refl _)
    ·rintro H4 s4 l hl
     have ef:(bss.map (List.map V.bl)).flatten=bss.flatten.map V.bl:=by rw [List.map_flatten]
     have ea:bss.flatten.all id=(hs.zip ws).all (iD ls):=by
      show (List.map _ (hs.zip ws)).flatten.all id=_
      rw [List.all_flatten,Xu]
      congr 1
      funext p
      show (List.map _ p.2).all id=_
      rw [Xu]
      rfl
     refine ⟨l,bss.flatten,rfl,SqL.of (by rw [<- ef]; exact aC),?_⟩
     rw [ea]
     exact k _ (s3.trans (s4.trans (aE.new hl)))
end
theorem rC {n:Int} {hs:List Int} {j:Nat} (h:n.toNat<=j):(aL n hs)[j]?=none:=by
 rw [Yt,bJ]; exact h
theorem zD (n:Int):(List.replicate n.toNat [V.int 0]).flatten=(aL n []).map V.int:=by
 rw [Xh]
 refine List.ext_getElem? fun j=>?_
 rw [Qg]
 by_cases h:j < n.toNat
 ·rw [dJ h,Jp,if_pos h]
  rfl
 ·rw [rC (by omega),Jp,if_neg h]
  rfl
theorem wX {n:Int} {hs:List Int} {h:Int} (h0:0<=h) (h1:h < n):((aL n hs).map V.int).set h.toNat (.int (((hs.count h:Nat):Int)+1))=(aL n (hs++[h])).map V.int:=by
 refine List.ext_getElem? fun j=>?_
 by_cases hj:j < n.toNat
 ·rw [Qg,dJ hj,List.count_append,Xi]
  have hl:((aL n hs).map V.int).length=n.toNat:=by rw [Qb,bJ]
  by_cases e:h.toNat=j
  ·have e':(j:Int)=h:=by omega
   rw [if_pos e,if_pos (by rw [hl]; omega),e',Wg]
   simp
  ·have e':¬ h=(j:Int):=by omega
   rw [if_neg e,Qg,dJ hj,Wg]
   simp [e']
 ·rw [Qg,rC (by omega),Yt.mpr]
  ·rfl
  ·rw [Xk,Qb,bJ]; omega
section
variable {P:Program} {w:World} {K:PySem.W.Frag} {mg:Str->Option Value} {base:Heap}
def rD (K:PySem.W.Frag):Sp:=fun vs H Q _=>∃ (x y:V) (wp:Addr) (n:Int) (ws:List (List Int)) (hs:List Int),vs = [x,.ref wp,y]/\dM K H x y n ws hs/\SqT K H wp ((List.replicate hs.length (1:Int)).map V.int)/\∀ p H',aE H H'->H p=none->H' p=some (.lst ((aL n hs).map V.int))->Q (.ref p) H'
theorem rE:FnScope ["book", "weights", "deal", "found", "at"] ["book", "weights", "deal"] (aF mV):=⟨rfl,rfl,rfl,by decide +kernel,rfl,by decide +kernel,by decide +kernel⟩
theorem tR {f:Addr} {fd:FuncData} (G:Fn K mg "_law_aheaps" mV ["book", "weights", "deal"] f fd) (B:Bl mg):FnOk P w K mg base CX0 1 f fd ["book", "weights", "deal"] (rD K):=by
 refine G.fn.ok rE (fun vs H Q E h=>?_) (fun cdv A outer s H vs Q E hr h=>?_)
 ·obtain ⟨x,y,wp,n,ws,hs,rfl,_⟩:=h
  rfl
 ·obtain ⟨x,y,wp,n,ws,hs,rfl,g,hwp,k⟩:=h
  refine ⟨_,(aD (aY (i:=3) rE.nd rfl (Or.inl rfl) (cL aEz (eM (aA aJ aB)) (aU aZ (pv 0) aJ (fun _ _=>rfl))))
  (aD (dZ PassesOwn.never rfl (cK rfl B.range (aA (aK aS rfl B.len cU (aA (pv 2) aB)) aB)) (aH (i:=4) rE.nd rfl (Or.inl rfl))
   (aG (iG (cL iH (aU eA (pv 3) (aU aZ (pv 2) (pv 4) (fun _ _=>rfl)) (fun _ _=>rfl)) (aU aZ (pv 1) (pv 4) (fun _ _=>rfl))) (uD (pv 3) (aU aZ (pv 2) (pv 4) (fun _ _=>rfl)) mF))))
  (aG (aO (pv 3))))),?_⟩
  obtain ⟨hl,hn1,hn6⟩:=g.len
  obtain ⟨a,b,ys,rfl,ha,hb2,hys⟩:=bS g.1
  obtain ⟨c,rfl,hc⟩:=aP.mp g.2.2.1
  refine ⟨sz1 _,fun z hz=>⟨_,rfl,a,_,0,.int n,rfl,rfl,(aE.new hz).seqT ha,rfl,z,n,_,rfl,rfl,aC,by omega,by omega,cV (by simp; omega),fun fl hfl=>?_⟩⟩
  have s1:=aE.new (o:=.lst [V.int 0]) hz
  generalize hH1:upd H z (.lst [V.int 0])=H1 at s1 hfl ⊢
  have hfl0:H fl=none:=s1.free hfl
  have hcfl:∀ u,SqT K (upd H1 fl u) c (hs.map V.int):=fun u=>(aE.new hfl).seqT (s1.seqT hc)
  have hwfl:∀ u,SqT K (upd H1 fl u) wp ((List.replicate hs.length (1:Int)).map V.int):=fun u=>(aE.new hfl).seqT (s1.seqT hwp)
  refine ⟨_,rfl,c,_,rfl,.inr (hcfl _),?_⟩
  rw [Qb]
  refine ⟨hs.length,rfl,by omega,by omega,gM (lo:=0) (n:=((hs.length:Int)).toNat) (fun i σ H3=>∃ v,σ = [some (.ref a),some (.ref wp),some (.ref c),some (.ref fl),v]/\H3=upd H1 fl (.lst ((aL n (hs.take i)).map V.int)))
   ⟨none,rfl,by rw [zD]; rfl⟩ ?_ ?_⟩
  ·rintro i σ H3 hi ⟨v,rfl,rfl⟩
   have hi':i < hs.length:=by omega
   have hh:hs[i]?=some hs[i]:=Qc hi'
   obtain ⟨b0,b1⟩:=g.hand hh
   have hci:atI (hs.map V.int) (0+(i:Int))=some (.int hs[i]):=by
    rw [Xp]; exact cI (by rw [Qg,hh]; rfl)
   have hwi:atI ((List.replicate hs.length (1:Int)).map V.int) (0+(i:Int))=some (.int 1):=by
    rw [Xp]; exact cI (by rw [Qg,Jp,if_pos hi']; rfl)
   generalize hs[i]=h at hh hci b0 b1
   have hlt:h.toNat < n.toNat:=by omega
   have hcast:((h.toNat:Nat):Int)=h:=by omega
   have hat:atI ((aL n (hs.take i)).map V.int) h=some (.int (((hs.take i).count h:Nat):Int)):=by
    have h1:((aL n (hs.take i)).map V.int)[h.toNat]?=some (.int (((hs.take i).count h:Nat):Int)):=by rw [Qg,dJ hlt,hcast]; rfl
    have h2:=cI h1
    rwa [hcast] at h2
   have hix:ixN ((aL n (hs.take i)).map V.int).length h=some h.toNat:=by
    rw [Qb,bJ]
    unfold ixN
    rw [if_pos b0,if_pos (by omega)]
   refine ⟨_,rfl,_,rfl,_,rfl,c,_,_,_,rfl,rfl,hcfl _,hci,fl,_,h,_,rfl,rfl,SqL.of aC,hat,_,rfl,_,rfl,wp,_,_,_,rfl,rfl,hwfl _,hwi,_,_,rfl,rfl,?_⟩
   refine ⟨_,rfl,_,rfl,_,rfl,c,_,_,_,rfl,rfl,hcfl _,hci,fl,_,h,h.toNat,rfl,rfl,aC,hix,?_⟩
   refine ⟨_,rfl,?_⟩
   rw [zR,wX b0 b1,Jh,hh]
   rfl
  ·rintro σ H3 ⟨v,rfl,rfl⟩
   refine ⟨_,rfl,k fl _ (s1.trans (aE.new hfl)) hfl0 ?_⟩
   rw [aC,Jw,Js]
theorem tS {tA tB:TT} {σ:St} {H:Hp} {Q:Bool->Hp->Prop} (a b:Bool) (hA:∀ R:Bool->Hp->Prop,R a H->tA σ H R) (hB:a=true->∀ R:Bool->Hp->Prop,R b H->tB σ H R) (h:Q (a && b) H):aE0 tA tB σ H Q:=by
 refine hA _ ?_
 cases a with
 | false=>exact eE h
 | true=>exact gQ (hB rfl _ h)
def wY (K:PySem.W.Frag):Sp:=fun vs H Q _=>∃ (x y:V) (q p:Addr) (n:Int) (ws cs:List (List Int)) (hs ps:List Int),vs = [x,.ref q,y,.ref p]/\dM K H x y n ws hs/\Den K H (gH cs) (.ref q)/\cB n ws.length cs/\SqT K H p (ps.map V.int)/\∀ H',aE H H'->Q (.bl (eV n ws cs hs ps)) H'
theorem jD:FnScope ["book", "costs", "deal", "prices", "heaps", "hand", "mine", "able"] ["book", "costs", "deal", "prices"] (aF mX):=⟨rfl,rfl,rfl,by decide +kernel,rfl,by decide +kernel,by decide +kernel⟩
set_option maxHeartbeats 2000000 in
theorem aBr {f fH:Addr} {fd dH:FuncData} (G:Fn K mg "_law_aare_prices" mX ["book", "costs", "deal", "prices"] f fd) (B:Bl mg) (GHp:Fn K mg "_law_aheaps" mV ["book", "weights", "deal"] fH dH):FnOk P w K mg base CX0 2 f fd ["book", "costs", "deal", "prices"] (wY K):=by
 have OHp:FnOk P w K mg base CX0 1 fH dH ["book", "weights", "deal"] (rD K):=tR GHp B
 refine G.fn.ok jD (fun vs H Q E h=>?_) (fun cdv A outer s H vs Q E hr h=>?_)
 ·obtain ⟨x,y,q,p,n,ws,cs,hs,ls,rfl,_⟩:=h
  rfl
 ·obtain ⟨x,y,q,p,n,ws,cs,hs,ls,rfl,g,hq,hc,hp,k⟩:=h
  have r1:Room 1 _:=hr
  refine ⟨_,(aD (bT (bB gW (aK aS rfl B.len cU (aA (pv 3) aB)) (aU aZ (pv 0) aJ (fun _ _=>rfl)) (bE _))
   (aG (aO cE))
   aW)
  (aD (aY (i:=4) jD.nd rfl (Or.inl rfl) (aT GHp OHp r1 rfl (aA (pv 0) (aA (cL (uV (K:=K) rfl) (gN (aA aJ aB)) (aK aS rfl B.len cU (aA (pv 2) aB))) (aA (pv 2) aB)))))
  (aD (dZ PassesOwn.never rfl (cK rfl B.range (aA (aU aZ (pv 0) aJ (fun _ _=>rfl)) aB)) (aH (i:=5) jD.nd rfl (Or.inr rfl))
   (aD (aY (i:=6) jD.nd rfl (Or.inl rfl) (aU aZ (pv 1) (pv 5) (fun _ _=>rfl)))
  (aD (bT (PW.pt (xV (bB zY (aU eA (pv 4) (pv 5) (fun _ _=>rfl)) aJ (bE _)) (uC (bB zY (aU aZ (pv 6) (cL xY (aU eA (pv 4) (pv 5) (fun _ _=>rfl)) aJ) (fun _ _=>rfl)) (aU aZ (pv 3) (pv 5) (fun _ _=>rfl)) (bE _)))))
   (aG (aO cE))
   aW)
  (aG (bT (PW.pt (xV (bB oI (aU eA (pv 4) (pv 5) (fun _ _=>rfl)) (aK aS rfl B.len cU (aA (pv 6) aB)) (bE _)) (uC (bB oI (aU aZ (pv 6) (aU eA (pv 4) (pv 5) (fun _ _=>rfl)) (fun _ _=>rfl)) (aU aZ (pv 3) (pv 5) (fun _ _=>rfl)) (bE _)))))
   (aG (aO cE))
   aW)))))
  (aD (dZ PassesOwn.never rfl (lQ .t .t rfl B.zip (aA (pv 2) (aA (aU aZ (pv 0) aJ (fun _ _=>rfl)) aB))) (eU rfl (aQ (aH (i:=5) jD.nd rfl (Or.inr rfl)) (aQ (aH (i:=7) jD.nd rfl (Or.inl rfl)) cH)))
   (aG (bT (bB (aBW hr.u64) (bR (own:=["other"]) (fr:=[5,3]) (frn:=["hand", "prices"]) (aV (aF mX) ["book", "costs", "deal", "prices", "heaps", "hand", "mine", "able"] rfl rfl (by decide +kernel)) rfl (eL (pv 7))
    (fun _ _ _ _=>(aH (i:=0) (show (["other", "hand", "prices"]:List Str).Nodup by decide +kernel) rfl (Or.inl rfl))) (fun _ _ _ _=>yH (bB oI (aU (eD (K:=K) rfl) (pv 2) (pv 0) (fun _ _=>rfl)) (aU (eD (K:=K) rfl) (pv 2) (pv 1) (fun _ _=>rfl)) (bE _)))
    (fun _ _ _ _=>(pv 0))) (eM aB) (bE _))
   (aG (aO cE))
   aW)))
  (aG (aO cE)))))),?_⟩
  obtain ⟨hn1,hn6,hw12,hws⟩:=bC g.2.1
  have hlen:=nF g
  obtain ⟨a,b,ys,rfl,ha,hb2,hys⟩:=bS g.1
  have hlw:=aN hys
  rw [Qb] at hlw
  obtain ⟨dp,rfl,hdp⟩:=aP.mp g.2.2.1
  refine ⟨_,rfl,p,_,rfl,.inr hp,_,rfl,a,_,0,.int n,rfl,rfl,ha,rfl,rfl,_,rfl,?_⟩
  rw [Qb]
  by_cases heq:ls.length=n.toNat
  case neg =>
   rw [decide_eq_false (fun z:V.int (ls.length:Int)=V.int n=>heq (by injection z with z; omega))]
   refine gQ ?_
   have e:eV n ws cs hs ls=false:=by unfold eV; rw [decide_eq_false heq]; rfl
   rw [e] at k
   exact k _ (aE.refl _)
  rw [decide_eq_true (by congr 1; omega:V.int (ls.length:Int)=V.int n)]
  refine eE ?_
  obtain ⟨q',rs,e,hq1,hrs⟩:=bH.mp hq
  obtain rfl:q=q':=by injection e
  have hlr:=aN hrs
  rw [Qb] at hlr
  obtain ⟨hl1,hl2,hfit⟩:=lD hn6 hw12 hlen hc
  refine ⟨_,rfl,sz1 _,fun o1 ho1=>?_⟩
  have s1:=aE.new (o:=.tup [.int 1]) ho1
  refine ⟨_,rfl,dp,_,rfl,.inr (s1.seqT hdp),o1,(hs.map V.int).length,[.int 1],rfl,rfl,SqT.of aC,by rw [Qb]; omega,by decide,fun o2 H2 s2 ho2=>?_⟩
  have s12:=s1.trans s2
  have ho2':SqT K H2 o2 ((List.replicate hs.length (1:Int)).map V.int):=by
   rw [Xh,Qb] at ho2
   rw [Yq]
   exact ho2
  refine ⟨_,rfl,.ref a,.ref dp,o2,n,ws,hs,rfl,g.same s12,ho2',fun hpp H3 s3 hfr hhp=>?_⟩
  have s03:=s12.trans s3
  have dY:∀ i,i < n.toNat->∃ row aw,cs[i]?=some row/\rs[i]?=some (.ref aw)/\SqT K H aw (row.map V.int)/\∃ ln:Nat,(aL n hs)[i]?=some (ln:Int)/\ln<=row.length:=fun i hi=>by
   have hic:i < cs.length:=by rw [hc.1]; exact hi
   have e1:cs[i]?=some cs[i]:=Qc hic
   obtain ⟨xv,h1,h2⟩:=iK hrs (show (cs.map bO)[i]?=some (bO cs[i]) by rw [Qg,e1]; rfl)
   obtain ⟨aw,rfl,haw⟩:=aP.mp h2
   have hll:i < (aL n hs).length:=by rw [bJ]; exact hi
   have e2:(aL n hs)[i]?=some (aL n hs)[i]:=Qc hll
   obtain ⟨f1,f2,_⟩:=hfit i _ _ e1 e2
   exact ⟨cs[i],aw,e1,h1,haw,(aL n hs)[i].toNat,by rw [e2]; congr 1; omega,by omega⟩
  have pB:∀ {i row} {ln:Nat},cs[i]?=some row->(aL n hs)[i]?=some (ln:Int)->cN (cs.getD i []) ((aL n hs).getD i 0).toNat (ls.getD i 0)=cN row ln (ls.getD i 0):=fun {i row ln} h1 h2=>by
   rw [Qn (l:=cs),Qn (l:=aL n hs),h1,h2]; rfl
  have allB:(∀ i,i < n.toNat->cN (cs.getD i []) ((aL n hs).getD i 0).toNat (ls.getD i 0)=true)->(iP cs (aL n hs) ls).all id=true:=fun h=>by
   unfold iP
   rw [Xu,Jd]
   intro i hi
   exact h i (by have:=Jr.mp hi; rw [hc.1] at this; exact this)
  have someB:∀ i,i < n.toNat->cN (cs.getD i []) ((aL n hs).getD i 0).toNat (ls.getD i 0)=false->eV n ws cs hs ls=false:=fun i hi h=>by
   have:(iP cs (aL n hs) ls).all id=false:=by
    rw [<- Zl]
    intro z
    unfold iP at z
    rw [Xu,Jd] at z
    have:=z i (Jr.mpr (by rw [hc.1]; exact hi))
    have this:cN (cs.getD i []) ((aL n hs).getD i 0).toNat (ls.getD i 0)=true:=this
    rw [h] at this; cases this
   unfold eV
   rw [this,Wh,Bool.and_false]
  refine ⟨_,rfl,a,_,0,.int n,rfl,rfl,s03.seqT ha,rfl,n,rfl,by omega,by omega,gM (lo:=0) (n:=n.toNat) (fun i σ H4=>(∃ v5 v6 v7,σ = [some (.ref a),some (.ref q),some (.ref dp),some (.ref p),some (.ref hpp),v5,v6,v7])/\H4=H3/\∀ j,j < i->cN (cs.getD j []) ((aL n hs).getD j 0).toNat (ls.getD j 0)=true)
   ⟨⟨_,_,_,rfl⟩,rfl,fun j hj=>absurd hj (Yk _)⟩ ?_ ?_⟩
  ·rintro i σ H4 hi ⟨⟨v5,v6,v7,rfl⟩,rfl,hall⟩
   obtain ⟨row,aw,e1,e2,haw,ln,e3,hln⟩:=dY i hi
   have haw3:=s03.seqT haw
   have hhp3:SqL K H4 hpp ((aL n hs).map V.int):=SqL.of hhp
   have hp3:=s03.seqT hp
   have hatH:atI ((aL n hs).map V.int) (0+(i:Int))=some (.int ln):=by rw [Xp]; exact cI (by rw [Qg,e3]; rfl)
   have hatP:atI (ls.map V.int) (0+(i:Int))=some (.int (ls.getD i 0)):=by rw [Xp]; exact atD (by omega)
   have hatR:atI rs (0+(i:Int))=some (.ref aw):=by rw [Xp]; exact cI e2
   refine ⟨_,rfl,_,rfl,q,_,_,_,rfl,rfl,s03.seqT hq1,hatR,?_⟩
   have epr:=pB e1 e3
   dsimp only [sS]
   refine tS (decide (0 < ln)) (decide (ls.getD i 0 < row.getD (ln - 1) 0)) (fun R hR=>?_) (fun h0 R hR=>?_) ?_
   ·refine ⟨_,rfl,_,rfl,hpp,_,_,_,rfl,rfl,hhp3,hatH,_,_,rfl,rfl,_,rfl,?_⟩
    have:decide ((ln:Int) > 0)=decide (0 < ln):=by rw [Xc,decide_eq_true_iff,decide_eq_true_iff]; omega
    try dsimp only
    rw [this]
    exact hR
   ·have h0':0 < ln:=of_decide_eq_true h0
    exact ⟨_,rfl,_,rfl,_,rfl,hpp,_,_,_,rfl,rfl,hhp3,hatH,_,_,rfl,rfl,aw,_,((ln - 1:Nat):Int),_,rfl,by rw [show ((ln - 1:Nat):Int)=(ln:Int) - 1 by omega],haw3,atD (show ln - 1 < row.length by omega),_,rfl,_,rfl,p,_,_,_,rfl,rfl,hp3,hatP,_,_,rfl,rfl,_,rfl,hR⟩
   refine eK (fun c1=>?_) (fun c1=>?_)
   ·have e:cN row ln (ls.getD i 0)=false:=by unfold cN; rw [c1]; rfl
    rw [someB i hi (epr.trans e)] at k
    exact k _ s03
   have c1':(decide (0 < ln) && decide (ls.getD i 0 < row.getD (ln - 1) 0))=false:=by simpa using c1
   dsimp only [aD3]
   unfold aE6
   refine tS (decide (ln < row.length)) (decide (row.getD ln 0 < ls.getD i 0)) (fun R hR=>?_) (fun h0 R hR=>?_) ?_
   ·refine ⟨_,rfl,_,rfl,hpp,_,_,_,rfl,rfl,hhp3,hatH,_,rfl,aw,_,rfl,.inr haw3,_,_,rfl,rfl,_,rfl,?_⟩
    have:decide ((ln:Int) < ((row.map V.int).length:Int))=decide (ln < row.length):=by rw [Xc,decide_eq_true_iff,decide_eq_true_iff,Qb]; omega
    try dsimp only
    rw [this]
    exact hR
   ·have h0':ln < row.length:=of_decide_eq_true h0
    exact ⟨_,rfl,_,rfl,_,rfl,hpp,_,_,_,rfl,rfl,hhp3,hatH,aw,_,ln,_,rfl,rfl,haw3,atD h0',_,rfl,_,rfl,p,_,_,_,rfl,rfl,hp3,hatP,_,_,rfl,rfl,_,rfl,hR⟩
   have e2':cN row ln (ls.getD i 0)=(decide (ln=row.length) || decide (ls.getD i 0<=row.getD ln 0)):=by unfold cN; rw [c1']; rfl
   refine eK (fun c2=>?_) (fun c2=>?_)
   ·rw [Jc,decide_eq_true_iff,decide_eq_true_iff] at c2
    have e:cN row ln (ls.getD i 0)=false:=by
     rw [e2',decide_eq_false (by omega),decide_eq_false (by omega)]; rfl
    rw [someB i hi (epr.trans e)] at k
    exact k _ s03
   ·refine ⟨⟨_,_,_,rfl⟩,rfl,fun j hj=>?_⟩
    by_cases z:j=i
    ·subst z
     rw [epr,e2']
     by_cases hl':ln=row.length
     ·rw [decide_eq_true hl']; rfl
     ·rw [Jc,decide_eq_true_iff,decide_eq_true_iff] at c2
      rw [decide_eq_true (show ls.getD j 0<=row.getD ln 0 by omega),Bool.or_true]
    ·exact hall j (by omega)
  ·rintro σ H4 ⟨⟨v5,v6,v7,rfl⟩,rfl,hall⟩
   have hA:=allB hall
   have elev:eV n ws cs hs ls=(hs.zip ws).all (iD ls):=by unfold eV; rw [hA,decide_eq_true heq,Xe,Xe]
   rw [elev] at k
   refine ⟨_,rfl,_,rfl,a,_,1,.ref b,rfl,rfl,s03.seqT ha,rfl,dp,b,_,_,rfl,s03.seqT hdp,s03.seqT hb2,aDo (K:=K) (k1:=.t) (k2:=.t) (a:=dp) (b:=b) (xs:=hs.map V.int) (ys:=ys) (fun i σ H5=>(∃ v5 v6 v7,σ = [some (.ref a),some (.ref q),some (.ref dp),some (.ref p),some (.ref hpp),v5,v6,v7])/\aE H4 H5/\∀ (j:Nat) h l,j < i->hs[j]?=some h->ws[j]?=some l->iD ls (h,l)=true)
    (by rw [Qb]; omega) ⟨⟨_,_,_,rfl⟩,aE.refl _,fun j _ _ hj=>absurd hj (Yk _)⟩ (fun i σ H5 _ hx9=>by obtain ⟨_,s5,_⟩:=hx9; exact ⟨(s03.trans s5).seqT hdp,(s03.trans s5).seqT hb2⟩) ?_ ?_⟩
   ·rintro i u v t σ H5 hu hv ⟨⟨v5,v6,v7,rfl⟩,s5,hle⟩ ht
    obtain ⟨h,hh,rfl⟩:=iS hu
    obtain ⟨dv,hdv,denv⟩:=cC hys hv
    rw [Qg] at hdv
    obtain ⟨l,hl,rfl⟩:∃ l,ws[i]?=some l/\bO l=dv:=by
     cases q:ws[i]? with
     | none=>rw [q] at hdv; cases hdv
     | some l=>rw [q] at hdv; exact ⟨l,rfl,Option.some.inj hdv⟩
    obtain ⟨aw,rfl,haw⟩:=aP.mp denv
    obtain ⟨b0,b1⟩:=g.hand hh
    obtain ⟨w1,w2,w3⟩:=bL (hws l (Qe hl))
    have hl6:=fM (by omega) w2 w3
    have s6:=s5.trans (aE.new (o:=.tup [.int h,.ref aw]) ht)
    refine ⟨t,_,rfl,SqT.of aC,rfl,_,_,rfl,_,_,rfl,rfl,?_⟩
    generalize upd H5 t (.tup [.int h,.ref aw])=H6 at s6 ⊢
    have s06:=s03.trans s6
    have haw6:=s06.seqT haw
    have hp6:=s06.seqT hp
    refine ⟨_,rfl,aw,rfl,⟨_,haw6⟩,gY (K:=K) (a:=aw) (xs:=l.map V.int) (fun σ=>∃ v,σ = [v,some (.int h),some (.ref p)]) (fun j zs H7=>aE H6 H7/\zs=((l.take j).filter fun o=>decide (ls.getD o.toNat 0 < ls.getD h.toNat 0)).map V.int) (cV (by rw [Qb]; omega)) ⟨none,rfl⟩ ⟨aE.refl _,rfl⟩ ?_ ?_ ?_ ?_⟩
    ·rintro j zs H7 ⟨_,rfl⟩
     rw [Qb]
     exact Qz (We _ _) (by rw [Ja]; omega)
    ·rintro j zs H7 ⟨s7,_⟩
     exact s7.seqT haw6
    ·rintro j zs σ u H7 hu7 ⟨v0,rfl⟩ ⟨s7,rfl⟩ hz
     obtain ⟨o,ho,rfl⟩:=iS hu7
     obtain ⟨o0,o1⟩:=w2 o (Qe ho)
     have et:l.take (j+1)=l.take j++[o]:=by rw [Jh,ho]; rfl
     refine ⟨_,rfl,_,rfl,p,_,o,_,rfl,rfl,s7.seqT hp6,kO (xs:=ls) o0 (by omega),_,rfl,_,rfl,p,_,h,_,rfl,rfl,s7.seqT hp6,kO (xs:=ls) b0 (by omega),_,_,rfl,rfl,_,rfl,?_⟩
     refine eK (fun c=>?_) (fun c=>?_)
     ·refine ⟨_,rfl,hz,⟨_,rfl⟩,s7,?_⟩
      rw [et,Zt,List.filter_cons_of_pos (p:=fun o=>decide (ls.getD o.toNat 0 < ls.getD h.toNat 0)) (a:=o) (l:=[]) c,List.filter_nil,Qx]
      rfl
     ·refine ⟨⟨_,rfl⟩,s7,?_⟩
      rw [et,Zt,List.filter_cons_of_neg (p:=fun o=>decide (ls.getD o.toNat 0 < ls.getD h.toNat 0)) (a:=o) (l:=[]) c,List.filter_nil,Zr]
    ·rintro zs H7 ⟨s7,rfl⟩ zp hzp
     rw [Qb,Js]
     refine ⟨cV (Jo _),fun ep hep=>?_⟩
     have s8:=(aE.new (o:=.lst ((l.filter fun o=>decide (ls.getD o.toNat 0 < ls.getD h.toNat 0)).map V.int)) hzp).trans (aE.new (o:=.lst []) hep)
     refine ⟨.list ((l.filter fun o=>decide (ls.getD o.toNat 0 < ls.getD h.toNat 0)).map .int),.list (([]:List Int).map .int),iF.mpr ⟨zp,rfl,(aE.new hep).seqL (SqL.of aC)⟩,iF.mpr ⟨ep,rfl,SqL.of aC⟩,fY _,fY _,fZ _,fZ _,_,rfl,?_⟩
     rw [nY]
     have s58:=s6.trans (s7.trans s8)
     generalize upd (upd H7 zp (.lst ((l.filter fun o=>decide (ls.getD o.toNat 0 < ls.getD h.toNat 0)).map V.int))) ep (.lst [])=H8 at s58 ⊢
     have eall:decide ((l.filter fun o=>decide (ls.getD o.toNat 0 < ls.getD h.toNat 0)) = [])=iD ls (h,l):=by
      show _=l.all _
      rw [Xc,decide_eq_true_iff,List.filter_eq_nil_iff,Jd]
      refine forall_congr' fun o=>forall_congr' fun _=>?_
      rw [decide_eq_true_iff,decide_eq_true_iff]
      exact Int.not_lt
     rw [eall]
     cases hlv:iD ls (h,l) with
     | true =>
      refine eE ?_
      refine ⟨⟨_,_,_,rfl⟩,s58,fun j h' l' hj e1 e2=>?_⟩
      by_cases z:j=i
      ·subst z
       rw [hh] at e1; rw [hl] at e2
       cases e1; cases e2
       exact hlv
      ·exact hle j h' l' (by omega) e1 e2
     | false =>
      refine gQ ?_
      rw [yZ hh hl hlv] at k
      exact k _ (s03.trans s58)
   ·rintro σ H5 ⟨⟨v5,v6,v7,rfl⟩,s5,hle⟩
    have e1':(hs.zip ws).all (iD ls)=true:=aBq fun j a b h1 h2=>hle j a b (by rw [Qb]; exact (Qd.mp h1).1) h1 h2
    rw [e1'] at k
    exact k _ (s03.trans s5)
def wZ (K:PySem.W.Frag):Sp:=fun vs H Q _=>∃ (t a:Addr) (ns:List Int) (x:V) (n:Int) (ws:List (List Int)),vs = [.ref t,x]/\fJ K H t a ns/\Den K H (bY n ws) x/\cG (bY n ws)=true/\∀ cs p H',cB n ws.length cs->But t H H'->fJ K H' t a ns->Den K H' (gH cs) (.ref p)->Q (.ref p) H'
theorem nG:FnScope ["tape", "book", "found", "hand", "most"] ["tape", "book"] (aF mW):=⟨rfl,rfl,rfl,by decide +kernel,rfl,by decide +kernel,by decide +kernel⟩
theorem aBs {f fD:Addr} {fd fdD:FuncData} (G:Fn K mg "_law_acosts" mW ["tape", "book"] f fd) (B:Bl mg) (GD:Fn K mg "_law_adigit" lA ["tape", "many"] fD fdD) (OD:FnOk P w K mg base CX0 1 fD fdD ["tape", "many"] (nB K)):FnOk P w K mg base CX0 2 f fd ["tape", "book"] (wZ K):=by
 refine G.fn.ok nG (fun vs H Q E h=>?_) (fun cdv A outer s H vs Q E hr h=>?_)
 ·obtain ⟨t,a,ns,x,n,ws,rfl,_⟩:=h
  rfl
 ·obtain ⟨t,a,ns,x,n,ws,rfl,hT,hx,hb,k⟩:=h
  have r1:Room 1 _:=hr
  refine ⟨_,(aD (aY (i:=2) nG.nd rfl (Or.inl rfl) (eM aB))
  (aD (dZ PassesOwn.never rfl (cK rfl B.range (aA (aU aZ (pv 1) aJ (fun _ _=>rfl)) aB)) (aH (i:=3) nG.nd rfl (Or.inl rfl))
   (aD (aY (i:=4) nG.nd rfl (Or.inr rfl) (aU eA (eM (aA aJ (aA aJ (aA aJ aB)))) (aT GD OD r1 rfl (aA (pv 0) (aA aJ aB))) (fun _ _=>rfl)))
  (aG (cQ (mG PySem.F.plainAttrs_list PySem.F.slot_list_append PySem.F.type_list_append gO (pv 2) (aA (bQ bI rfl B.tuple bV (aA (aK vX rfl B.sorted aCt (aA (bR (own:=["able"]) (fr:=[4,0]) (frn:=["most", "tape"]) (aV (aF mW) ["tape", "book", "found", "hand", "most"] rfl rfl (by decide +kernel)) rfl (eL (aU aZ (pv 1) aJ (fun _ _=>rfl)))
    (fun _ _ _ _=>(aH (i:=0) (show (["able", "most", "tape"]:List Str).Nodup by decide +kernel) rfl (Or.inl rfl))) (fun _ _ _ _=>cA)
    (fun _ _ _ _=>(aT GD OD r1 rfl (aA (pv 2) (aA (pv 1) aB))))) aB)) aB)) aB))))))
  (aG (aO (bQ bI rfl B.tuple bV (aA (pv 2) aB)))))),?_⟩
  obtain ⟨hn1,hn6,h12,hws⟩:=bC hb
  obtain ⟨ba,bb,ys,rfl,ha,hb2,hys⟩:=bS hx
  have hlw:=aN hys
  rw [Qb] at hlw
  refine ⟨cV (Jo _),fun fl hfl=>?_⟩
  have ntf:t≠fl:=fun z=>hT.ne hfl z.symm
  have s1:=aE.new (o:=.lst []) hfl
  have T1:=hT.same s1
  have hfl1:upd H fl (.lst []) fl=some (.lst []):=aC
  generalize upd H fl (.lst [])=H1 at s1 T1 hfl1 ⊢
  refine ⟨_,rfl,ba,_,0,.int n,rfl,rfl,s1.seqT ha,rfl,n,rfl,by omega,by omega,gM (lo:=0) (n:=n.toNat) (fun i σ H2=>∃ (cs:List (List Int)) (xs:List V) (v3 v4:Option V),σ = [some (.ref t),some (.ref ba),some (.ref fl),v3,v4]/\cs.length=i/\(∀ row∈cs,nD ws.length row)/\H2 fl=some (.lst xs)/\bA K H2 (cs.map bO) xs/\But t H H2/\fJ K H2 t a ns)
   ⟨[],[],none,none,rfl,rfl,fun _ h=>(Qo h).elim,hfl1,bD.mpr rfl,But.of s1,T1⟩ ?_ ?_⟩
  ·rintro i σ H2 hi ⟨cs,xs,v3,v4,rfl,hl,hw,hx,hd,b2,T2⟩
   have hxl:xs.length=i:=by rw [aN hd,Qb,hl]
   refine ⟨cV (by show 3<=_; decide),fun l0 hl0=>?_⟩
   have s3:=aE.new (o:=.lst [.int 3,.int 12,.int 1000]) hl0
   have e3:upd H2 l0 (.lst [.int 3,.int 12,.int 1000]) l0=some (.lst [.int 3,.int 12,.int 1000]):=aC
   have T3:=T2.same s3
   have hlt:l0≠t:=T2.ne hl0
   generalize upd H2 l0 (.lst [.int 3,.int 12,.int 1000])=H3 at s3 e3 T3 ⊢
   refine ⟨_,rfl,t,a,ns,3,rfl,T3,by decide,by decide,fun r H4 hr0 hr1 b4 T4=>?_⟩
   have hl4:=b4 l0 _ hlt e3
   obtain ⟨m,hm,hm1,hm2⟩:∃ m:Int,atI [V.int 3,V.int 12,V.int 1000] r=some (.int m)/\1<=m/\m<=1000:=by
    have:r=0∨r=1∨r=2:=by omega
    rcases this with rfl | rfl | rfl
    ·exact ⟨3,rfl,by decide,by decide⟩
    ·exact ⟨12,rfl,by decide,by decide⟩
    ·exact ⟨1000,rfl,by decide,by decide⟩
   have b24:=(But.of (t:=t) s3).trans b4
   have b04:=b2.trans b24
   have hx4:=b24 fl _ (Ne.symm ntf) hx
   refine ⟨l0,_,r,_,rfl,rfl,SqL.of hl4,hm,?_⟩
   refine ⟨_,rfl,.inl ⟨rfl,_,SqL.of hx4⟩,_,rfl,ba,_,1,.ref bb,rfl,rfl,hT.seqT b04 ha,rfl,bb,rfl,⟨_,hT.seqT b04 hb2⟩,gY (K:=K) (a:=bb) (xs:=ys) (fun σ=>∃ v,σ = [v,some (.int m),some (.ref t)]) (fun j zs H5=>∃ l:List Int,zs=l.map V.int/\l.length=j/\(∀ x∈l,0<=x/\x < m)/\But t H4 H5/\fJ K H5 t a ns)
    (cV (by omega)) ⟨none,rfl⟩ ⟨[],rfl,rfl,fun _ h=>(Qo h).elim,But.refl t H4,T4⟩ ?_ ?_ ?_ ?_⟩
   ·rintro j zs H5 ⟨l,rfl,rfl,_⟩
    rw [Qb]
    exact Qh _
   ·rintro j zs H5 ⟨l,rfl,rfl,_,b5,_⟩
    exact hT.seqT (b04.trans b5) hb2
   ·rintro j zs σ y H5 hyj ⟨v,rfl⟩ ⟨l,rfl,hlj,hg,b5,T5⟩ hz
    refine bK ?_
    refine ⟨_,rfl,_,rfl,t,a,ns,m,rfl,T5,by omega,by omega,fun r6 H6 h60 h61 b6 T6=>?_⟩
    refine ⟨hz,⟨_,rfl⟩,l++[r6],by rw [Qx]; rfl,by rw [Qk,hlj]; rfl,fun x hx=>?_,b5.trans b6,T6⟩
    rcases Jk.mp hx with hx | hx
    ·exact hg x hx
    ·rw [Qu.mp hx]; exact ⟨h60,h61⟩
   ·rintro zs H5 ⟨l,rfl,hlj,hg,b5,T5⟩ p hp
    have s6:=aE.new (o:=.lst (l.map V.int)) hp
    refine ⟨p,l,rfl,.inl (SqL.of aC),by omega,fun q ms hq hpm hsr=>?_⟩
    have s7:=aE.new (o:=.lst (ms.map V.int)) hq
    refine ⟨q,_,rfl,.inl ⟨SqL.of aC,fun u hu=>?_⟩⟩
    have s8:=s6.trans (s7.trans (aE.new (o:=.tup (ms.map V.int)) hu))
    have hu8:SqT K (upd (upd (upd H5 p (.lst (l.map V.int))) q (.lst (ms.map V.int))) u (.tup (ms.map V.int))) u (ms.map V.int):=SqT.of aC
    generalize upd (upd (upd H5 p (.lst (l.map V.int))) q (.lst (ms.map V.int))) u (.tup (ms.map V.int))=H8 at s8 hu8 ⊢
    have b28:=b24.trans (b5.trans (But.of (t:=t) s8))
    have T8:=T5.same s8
    have hx8:H8 fl=some (.lst xs):=b28 fl _ (Ne.symm ntf) hx
    have hd8:=T2.denAll b28 (eQ _ dU cs) hd
    have b9:But fl H8 (upd H8 fl (.lst (xs++[.ref u]))):=But.at
    have hrow:nD ws.length ms:=⟨by rw [hpm.length_eq]; omega,fun c hc=>by have:=hg c (hpm.mem_iff.mp hc); omega,hsr⟩
    refine ⟨fl,xs,.ref u,rfl,rfl,hx8,by rw [sizeLine_eq]; omega,cs++[ms],_,_,_,rfl,by rw [Qk,hl]; rfl,fun l2 hl2=>?_,aC,?_,fun b o nb hb=>?_,T8.wr b9 ntf⟩
    ·rcases Jk.mp hl2 with h | h
     ·exact hw l2 h
     ·rw [Qu.mp h]; exact hrow
    ·rw [Qx]
     exact eW (b9.denAll hx8 _ _ (eQ _ dU cs) hd8) (aX.mpr ⟨_,_,rfl,aP.mpr ⟨u,rfl,b9.seqT hx8 hu8⟩,bD.mpr rfl⟩)
    ·rw [aI (fun z=>by rw [z,hfl] at hb; cases hb)]
     exact (b2.trans b28) b o nb hb
  ·rintro σ H2 ⟨cs,xs,v3,v4,rfl,hl,hw,hx,hd,b2,T2⟩
   refine ⟨_,rfl,fl,_,rfl,.inl ⟨SqL.of hx,fun p hp=>?_⟩⟩
   have sm:=aE.new (o:=.tup xs) hp
   exact k cs p _ ⟨hl,hw⟩ (b2.trans (But.of sm)) (T2.same sm) (bH.mpr ⟨p,xs,rfl,SqT.of aC,sm.denAll _ _ hd⟩)
def gI (ws:List (List Int)) (hs:List Int):List Int->Bool
 | [k,g,t]=>decide (0<=k) && (decide (k < hs.length) && (hs[k.toNat]?==some g && (!decide (t=g) && decide (t∈ws.getD k.toNat []))))
 | _=>false
def jT (st:List Int):Int:=st.getD 1 0
def rF (st:List Int):Int:=st.getD 2 0
def bU:List (List Int)->List Int
 | []=>[]
 | s::r=>jT s::(s::r).map rF
def pE (L:List (List Int)):Bool:=(L.zip (bU L)).all fun p=>jT p.1==p.2
def rG (ws:List (List Int)) (hs:List Int) (L:List (List Int)):Bool:=!L.isEmpty && (L.all (gI ws hs) && (pE L && decide ((bU L).Nodup)))
theorem tT {ws:List (List Int)} {hs:List Int} {st:List Int} (h:gI ws hs st=true):∃ k g t,st = [k,g,t]:=by
 match st,h with
 | [k,g,t],_=>exact ⟨k,g,t,rfl⟩
theorem aBt {ws:List (List Int)} {hs:List Int} {st:List Int} (h:st.length≠3):gI ws hs st=false:=by
 match st,h with
 | [],_=>rfl
 | [_],_=>rfl
 | [_,_],_=>rfl
 | [_,_,_],h=>exact absurd rfl h
 | _::_::_::_::_,_=>rfl
theorem aF3 {st:List Int} (h:st.length=3):∃ k g t,st = [k,g,t]:=by
 match st,h with
 | [k,g,t],_=>exact ⟨k,g,t,rfl⟩
theorem jU {H:Hp} {ws:List (List Int)} {ys:List V} (h:bA K H (ws.map bO) ys) {i:Nat} {l:List Int} (e:ws[i]?=some l):∃ c,ys[i]?=some (.ref c)/\SqT K H c (l.map V.int):=by
 have hl:=aN h
 rw [Qb] at hl
 have hi:i < ys.length:=by rw [hl]; exact (Qd.mp e).1
 obtain ⟨d,e1,e2⟩:=cC h (Qc hi)
 rw [Qg,e] at e1
 obtain rfl:=(Option.some.inj e1).symm
 obtain ⟨c,e3,e4⟩:=aP.mp e2
 exact ⟨c,by rw [Qc hi,e3],e4⟩
theorem aCK {l:List Int} {k:Int} {x:Int} (h0:0<=k) (h:l[k.toNat]?=some x):atI (l.map V.int) k=some (.int x):=by
 have h1:(l.map V.int)[k.toNat]?=some (.int x):=by rw [Qg,h]; rfl
 have h2:=cI h1
 rwa [Xr h0] at h2
theorem aEN {l:List V} {k:Int} {x:V} (h0:0<=k) (h:l[k.toNat]?=some x):atI l k=some x:=by
 have h2:=cI h
 rwa [Xr h0] at h2
variable {fW fH fK fB fNB fD fND fL:Addr} {dW dH dK dB dNB dD dND dL:FuncData}
def aCL (K:PySem.W.Frag):Sp:=fun vs H Q _=>∃ x y b n ws hs l,vs = [x,y,.ref b]/\dM K H x y n ws hs/\SqT K H b (l.map V.int)/\l.length<=1000/\∀ H',aE H H'->Q (.bl (gI ws hs l)) H'
theorem vH:FnScope ["book", "deal", "step", "work", "giver", "taker"] ["book", "deal", "step"] (aF tL):=⟨rfl,rfl,rfl,by decide +kernel,rfl,by decide +kernel,by decide +kernel⟩
theorem aCM {ws:List (List Int)} {hs:List Int} {k g t:Int} {h:Int} {l:List Int} (k0:0<=k) (k1:k < hs.length) (eh:hs[k.toNat]?=some h) (el:ws[k.toNat]?=some l):gI ws hs [k,g,t]=(decide (V.int h=V.int g) && (!decide (V.int t=V.int g) && l.any (·==t))):=by
 show (decide (0<=k) && (decide (k < hs.length) && (hs[k.toNat]?==some g && (!decide (t=g) && decide (t∈ws.getD k.toNat [])))))=_
 rw [decide_eq_true k0,decide_eq_true k1,eh]
 have e1:ws.getD k.toNat []=l:=by rw [Qn,el]; rfl
 rw [e1]
 have e2:(some h==some g)=decide (V.int h=V.int g):=by
  by_cases z:h=g
  ·subst z; simp
  ·rw [decide_eq_false (fun q=>z (V.int.inj q))]; simpa using z
 have e3:decide (t=g)=decide (V.int t=V.int g):=by
  by_cases z:t=g
  ·subst z; simp
  ·rw [decide_eq_false z,decide_eq_false (fun q=>z (V.int.inj q))]
 have e4:decide (t∈l)=l.any (·==t):=by
  rw [Xc,decide_eq_true_iff,Zk]
  constructor
  ·intro h; exact ⟨t,h,by simp⟩
  ·rintro ⟨y,hy,e⟩; have:y=t:=by simpa using e
   rw [<- this]; exact hy
 rw [e2,e3,e4]
 rfl
theorem aDQ {f:Addr} {fd:FuncData} (G:Fn K mg "is_step" tL ["book", "deal", "step"] f fd) (B:Bl mg) (R:Pr K mg fW fH fK fB fNB fD fND fL dW dH dK dB dNB dD dND dL):FnOk P w K mg base CX0 2 f fd ["book", "deal", "step"] (aCL K):=by
 have OW:FnOk P w K mg base CX0 1 fW dW ["thing"] (jO K):=jB R.W B
 refine G.fn.ok vH (fun vs H Q E h=>?_) (fun cdv A outer s H vs Q E hr h=>?_)
 ·obtain ⟨x,y,b,n,ws,hs,l,rfl,_⟩:=h
  rfl
 ·obtain ⟨x,y,b,n,ws,hs,l,rfl,g,hb,hl,k⟩:=h
  have r1:Room 1 _:=hr
  refine ⟨_,(aD (bT (PW.pt (gA (cF (cJ (aK bN rfl B.isinstance iA (aA (pv 2) (aA (dO (v:=.ty "tuple") rfl B.tuple bV rfl) aB))))) (eT (bB gW (aK aS rfl B.len cU (aA (pv 2) aB)) aJ (bE _)))))
   (aG (aO cE))
   aW)
  (aD (bT (cF (cJ (aK (eN rfl) rfl B.all kK (aA (bR (own:=["part"]) (fr:=[]) (frn:=[]) (aV (aF tL) ["book", "deal", "step", "work", "giver", "taker"] rfl rfl (by decide +kernel)) rfl (eL (pv 2))
    (fun _ _ _ _=>(aH (i:=0) (show (["part"]:List Str).Nodup by decide +kernel) rfl (Or.inl rfl))) (fun _ _ _ _=>cA)
    (fun _ _ _ _=>(aT R.W OW r1 rfl (aA (pv 0) aB)))) aB))))
   (aG (aO cE))
   aW)
  (aD (iG (pv 2) (eU rfl (aQ (aH (i:=3) vH.nd rfl (Or.inl rfl)) (aQ (aH (i:=4) vH.nd rfl (Or.inl rfl)) (aQ (aH (i:=5) vH.nd rfl (Or.inl rfl)) cH)))))
  (aD (bT (cF (aBM mC oI aJ (pv 3) (aK aS rfl B.len cU (aA (pv 1) aB))))
   (aG (aO cE))
   aW)
  (aG (aO (jI (eX lI (aU aZ (pv 1) (pv 3) (fun _ _=>rfl)) (pv 4) (bE _)) (jI (eX gW (pv 5) (pv 4) (bE _)) (jH (eX iU (pv 5) (aU aZ (aU aZ (pv 0) aJ (fun _ _=>rfl)) (pv 3) (fun _ _=>rfl)) (by with_unfolding_all rfl))))))))))),?_⟩
  refine ⟨_,rfl,.ref b,.tup,rfl,.inr (.inl ⟨rfl,_,hb⟩),true,rfl,?_⟩
  refine eE ?_
  refine ⟨_,rfl,b,_,rfl,.inr hb,rfl,_,rfl,?_⟩
  refine eK (fun c=>?_) (fun c=>?_)
  ·have hne:l.length≠3:=fun z=>by rw [Qb,z] at c; simp at c
   rw [aBt hne] at k
   exact k H (aE.refl H)
  have h3:l.length=3:=by
   have:V.int ((l.map V.int).length:Nat)=V.int 3:=by simpa using c
   have:=V.int.inj this
   rw [Qb] at this
   omega
  obtain ⟨wk,gv,tk,rfl⟩:=aF3 h3
  refine ⟨_,rfl,b,rfl,⟨_,hb⟩,gY (K:=K) (a:=b) (xs:=[V.int wk,V.int gv,V.int tk]) (fun σ=>σ.length=1) (fun i ys H'=>ys=(List.replicate i true).map V.bl/\aE H H') (cV (show 3<=1000 by decide)) rfl ⟨rfl,aE.refl H⟩ (fun i ys H' p=>by rw [p.1]; simp) (fun i ys H' p=>p.2.seqT hb) (fun i ys σ x H' hx hσ p hz=>?_) (fun ys H' p=>?_)⟩
  ·obtain ⟨v,rfl⟩:∃ v,σ = [v]:=by match σ,hσ with | [v],_=>exact ⟨v,rfl⟩
   obtain ⟨q1,q2⟩:=p
   obtain ⟨m,rfl⟩:∃ m,x=.int m:=by
    have hm:=Qe hx
    simp only [Qm,Qo,or_false] at hm
    rcases hm with rfl | rfl | rfl
    ·exact ⟨_,rfl⟩
    ·exact ⟨_,rfl⟩
    ·exact ⟨_,rfl⟩
   refine bK ?_
   refine ⟨_,rfl,.int m,.int m,rfl,eJ.mpr rfl,hz,rfl,?_,q2⟩
   rw [q1,Yd,Qx]
   rfl
  ·obtain ⟨rfl,s1⟩:=p
   intro p hp
   have s2:=aE.new (o:=.lst ((List.replicate [V.int wk,V.int gv,V.int tk].length true).map V.bl)) hp
   refine ⟨p,List.replicate 3 true,rfl,SqL.of aC,_,rfl,?_⟩
   refine eE ?_
   have s3:=s1.trans s2
   generalize upd H' p (.lst ((List.replicate [V.int wk,V.int gv,V.int tk].length true).map V.bl))=H2 at s2 s3 ⊢
   refine ⟨_,rfl,b,_,rfl,s3.seqT hb,rfl,_,_,rfl,_,_,rfl,_,_,rfl,rfl,?_⟩
   have g3:=g.same s3
   obtain ⟨hdl,hdg⟩:=bF g.2.2.2
   obtain ⟨ba,bb,ys2,rfl,ha,hb2,hys⟩:=bS g3.1
   obtain ⟨c,rfl,hc⟩:=aP.mp g3.2.2.1
   refine ⟨_,rfl,_,_,rfl,rfl,_,rfl,?_⟩
   by_cases k0:0<=wk
   ·rw [decide_eq_true k0]
    refine gQ ?_
    refine ⟨_,rfl,c,_,rfl,.inr hc,_,_,rfl,rfl,_,rfl,?_⟩
    rw [Qb]
    by_cases k1:wk < hs.length
    ·rw [decide_eq_true k1]
     refine eE ?_
     have hlt:wk.toNat < hs.length:=by omega
     have eh:=Qc hlt
     have el:=Qc (l:=ws) (i:=wk.toNat) (by omega)
     obtain ⟨cw,e1,e2⟩:=jU hys el
     have sv:=aCM (g:=gv) (t:=tk) k0 k1 eh el
     have kk:=k H2 s3
     rw [sv] at kk
     refine ⟨_,rfl,_,rfl,c,_,_,_,rfl,rfl,hc,aCK k0 eh,_,rfl,rfl,_,rfl,?_⟩
     refine eK (fun c1=>?_) (fun c1=>?_)
     ·rw [c1] at kk
      refine ⟨_,rfl,_,rfl,rfl,_,rfl,?_⟩
      refine eK (fun c2=>?_) (fun c2=>?_)
      ·rw [c2] at kk
       refine ⟨_,rfl,_,rfl,ba,_,1,.ref bb,rfl,rfl,ha,rfl,_,rfl,bb,_,_,_,rfl,rfl,hb2,aEN k0 e1,cw,_,rfl,.inr e2,rfl,nX _,?_⟩
       rw [show inV (V.int tk) (ws[wk.toNat].map V.int)=_ from vE tk _]
       exact kk
      ·rw [Zl] at c2
       rw [c2] at kk
       exact kk
     ·rw [Zl] at c1
      rw [c1] at kk
      exact kk
    ·rw [decide_eq_false k1]
     refine gQ ?_
     have e:gI ws hs [wk,gv,tk]=false:=by
      show (decide (0<=wk) && (decide (wk < hs.length) && _))=false
      rw [decide_eq_false k1]; simp
     rw [e] at k
     exact k H2 s3
   ·rw [decide_eq_false k0]
    refine eE ?_
    refine ⟨_,rfl,?_⟩
    refine gQ ?_
    have e:gI ws hs [wk,gv,tk]=false:=by
     show (decide (0<=wk) && _)=false
     rw [decide_eq_false k0]; rfl
    rw [e] at k
    exact k H2 s3
end
theorem zE {L:List (List Int)} (h:L≠[]):(bU L).length=L.length+1:=by
 cases L with
 | nil=>exact absurd rfl h
 | cons s r=>simp [bU]
section
variable {P:Program} {w:World} {K:PySem.W.Frag} {mg:Str->Option Value} {base:Heap}
variable {fW fH fK fB fNB fD fND fL:Addr} {dW dH dK dB dNB dD dND dL:FuncData}
def aEd (K:PySem.W.Frag):Sp:=fun vs H Q _=>∃ x y p xs n ws hs L,vs = [x,y,.ref p]/\dM K H x y n ws hs/\SqL K H p xs/\bA K H (L.map bO) xs/\L.length<=30/\(∀ l∈L,l.length<=1000)/\∀ H',aE H H'->Q (.bl (rG ws hs L)) H'
theorem aCN:FnScope ["book", "deal", "some", "passed", "follow"] ["book", "deal", "some"] (aF yS):=⟨rfl,rfl,rfl,by decide +kernel,rfl,by decide +kernel,by decide +kernel⟩
theorem aEO {f fS:Addr} {fd dS:FuncData} (G:Fn K mg "is_way" yS ["book", "deal", "some"] f fd) (B:Bl mg) (R:Pr K mg fW fH fK fB fNB fD fND fL dW dH dK dB dNB dD dND dL) (GS:Fn K mg "is_step" tL ["book", "deal", "step"] fS dS):FnOk P w K mg base CX0 7 f fd ["book", "deal", "some"] (aEd K):=by
 have OS:FnOk P w K mg base CX0 2 fS dS ["book", "deal", "step"] (aCL K):=aDQ GS B R
 have OND:FnOk P w K mg base CX0 6 fND dND ["book", "deal"] (mY K):=mZ B R
 refine G.fn.ok aCN (fun vs H Q E h=>?_) (fun cdv A outer s H vs Q E hr h=>?_)
 ·obtain ⟨x,y,p,xs,n,ws,hs,L,rfl,_⟩:=h
  rfl
 ·obtain ⟨x,y,p,xs,n,ws,hs,L,rfl,g,hp,hd,hL,hl1000,k⟩:=h
  have r2:Room 2 _:=hr.mono (by decide)
  have r6:Room 6 _:=hr
  refine ⟨_,(aD (cQ (aT R.ND OND r6 rfl (aA (pv 0) (aA (pv 1) aB))))
  (aD (bT (PW.pt (gA (cF (cJ (aK sA rfl B.isinstance iA (aA (pv 2) (aA (dO (v:=.ty "list") rfl B.list uZ rfl) aB))))) (eT (bB lI (aK aS rfl B.len cU (aA (pv 2) aB)) aJ (bE _)))))
   (aG (aO cE))
   aW)
  (aD (bT (cF (cJ (aK (eN rfl) rfl B.all kK (aA (bR (own:=["step"]) (fr:=[0,1]) (frn:=["book", "deal"]) (aV (aF yS) ["book", "deal", "some", "passed", "follow"] rfl rfl (by decide +kernel)) rfl (jJ (pv 2))
    (fun _ _ _ _=>(aH (i:=0) (show (["step", "book", "deal"]:List Str).Nodup by decide +kernel) rfl (Or.inl rfl))) (fun _ _ _ _=>cA)
    (fun _ _ _ _=>(aT GS OS r2 rfl (aA (pv 1) (aA (pv 2) (aA (pv 0) aB)))))) aB))))
   (aG (aO cE))
   aW)
  (aD (aY (i:=3) aCN.nd rfl (Or.inl rfl) (cL aBT (eM (aA (aU aZ (aU eA (pv 2) aJ (fun _ _=>rfl)) aJ (fun _ _=>rfl)) aB)) (bR (own:=["step"]) (fr:=[]) (frn:=[]) (aV (aF yS) ["book", "deal", "some", "passed", "follow"] rfl rfl (by decide +kernel)) rfl (jJ (pv 2))
    (fun _ _ _ _=>(aH (i:=0) (show (["step"]:List Str).Nodup by decide +kernel) rfl (Or.inl rfl))) (fun _ _ _ _=>cA)
    (fun _ _ _ _=>(aU (eD (K:=K) rfl) (pv 0) aJ (fun _ _=>rfl))))))
  (aD (aY (i:=4) aCN.nd rfl (Or.inl rfl) (aK (eN rfl) rfl B.all kK (aA (bR (own:=["step", "hand"]) (fr:=[]) (frn:=[]) (aV (aF yS) ["book", "deal", "some", "passed", "follow"] rfl rfl (by decide +kernel)) rfl (lQ .l .l rfl B.zip (aA (pv 2) (aA (pv 3) aB)))
    (fun _ _ _ _=>(jP (K:=K) (n:=2) rfl rfl (aQ (aH (i:=0) (show (["step", "hand"]:List Str).Nodup by decide +kernel) rfl (Or.inl rfl)) (aQ (aH (i:=1) (show (["step", "hand"]:List Str).Nodup by decide +kernel) rfl (Or.inl rfl)) cH)))) (fun _ _ _ _=>cA)
    (fun _ _ _ _=>(eX lI (aU (eD (K:=K) rfl) (pv 0) aJ (fun _ _=>rfl)) (pv 1) (bE _)))) aB)))
  (aG (aO (jI (pv 4) (jH (eX lI (aK sG rfl B.len cU (aA (bQ (aA6 (K:=K) rfl rfl) rfl B.set aFE (aA (pv 3) aB)) aB)) (aK aS rfl B.len cU (aA (pv 3) aB)) (bE _))))))))))),?_⟩
  refine ⟨_,rfl,_,rfl,x,y,n,ws,hs,rfl,g,fun H1 s1=>?_⟩
  have hxl:=aN hd
  rw [Qb] at hxl
  have hp1:=s1.seqL hp
  have hd1:=s1.denAll _ _ hd
  refine ⟨_,rfl,.ref p,.lst,rfl,.inl ⟨rfl,_,hp1⟩,true,rfl,?_⟩
  refine eE ?_
  refine ⟨_,rfl,p,_,rfl,.inl hp1,rfl,_,rfl,?_⟩
  refine eK (fun c=>?_) (fun c=>?_)
  ·have e0:L = []:=by
    have:V.int (xs.length:Nat)=V.int 0:=by simpa using c
    have:=V.int.inj this
    exact Xx.mp (by omega)
   subst e0
   exact k H1 s1
  have hne:L≠[]:=fun z=>by
   subst z
   have:xs.length=0:=by simpa using hxl
   rw [this] at c
   simp at c
  have g1:=g.same s1
  refine ⟨_,rfl,p,rfl,⟨_,hp1⟩,wC (K:=K) (a:=p) (xs:=xs) (vs:=(L.map (gI ws hs)).map V.bl) (fun σ=>∃ v,σ = [v,some x,some y]) (by omega) (by simp [hxl]) hp1 ⟨none,rfl⟩ ?_ ?_⟩
  ·rintro i u v σ H2 hu hv ⟨v0,rfl⟩ s2 Q' k'
   have hlt:i < L.length:=by have:=(Qd.mp hu).1; omega
   have el:L[i]?=some L[i]:=Qc hlt
   obtain ⟨c1,e1,e2⟩:=jU (s2.denAll _ _ hd1) el
   rw [hu] at e1
   obtain rfl:=Option.some.inj e1
   have ev:v=.bl (gI ws hs L[i]):=by
    rw [Qg,Qg,el] at hv
    exact (Option.some.inj hv).symm
   subst ev
   refine ⟨_,rfl,_,rfl,_,rfl,x,y,c1,n,ws,hs,L[i],rfl,g1.same s2,e2,hl1000 _ (Xg hlt),fun H3 s3=>?_⟩
   exact k' _ H3 ⟨_,rfl⟩ s3
  ·intro H2 s2 q hq
   refine ⟨q,L.map (gI ws hs),rfl,SqL.of aC,_,rfl,?_⟩
   have s3:=s2.trans (aE.new (o:=.lst ((L.map (gI ws hs)).map V.bl)) hq)
   generalize upd H2 q (.lst ((L.map (gI ws hs)).map V.bl))=H3 at s3 ⊢
   have eall:(L.map (gI ws hs)).all id=L.all (gI ws hs):=by rw [Xu]; rfl
   rw [eall]
   by_cases ha:L.all (gI ws hs)=true
   ·rw [ha]
    refine eE ?_
    have hok:∀ st∈L,gI ws hs st=true:=fun st h=>Jd.mp ha st h
    have hp3:∀ {H':Hp},aE H3 H'->SqL K H' p xs:=fun z=>z.seqL (s3.seqL hp1)
    have nth:∀ {H':Hp} {i:Nat} {u:V},aE H3 H'->xs[i]?=some u->∃ (c:Addr) (st:List Int) (kk gg tt:Int),u=.ref c/\L[i]?=some st/\st = [kk,gg,tt]/\SqT K H' c [.int kk,.int gg,.int tt]:=fun {H' i u} z hu=>by
     have hlt:i < L.length:=by have:=(Qd.mp hu).1; omega
     have el:L[i]?=some L[i]:=Qc hlt
     obtain ⟨c1,e1,e2⟩:=jU (z.denAll _ _ (s3.denAll _ _ hd1)) el
     rw [hu] at e1
     obtain ⟨kk,gg,tt,e3⟩:=tT (hok _ (Xg hlt))
     rw [e3] at e2
     exact ⟨c1,L[i],kk,gg,tt,Option.some.inj e1,el,e3,e2⟩
    have h0:0 < xs.length:=by
     have:=Yj.mpr hne
     omega
    obtain ⟨c0,st0,k0,g0,t0,e0,el0,es0,q0⟩:=nth (aE.refl H3) (Qc h0)
    refine ⟨_,rfl,p,_,0,.ref c0,rfl,rfl,hp3 (aE.refl H3),cI (by rw [Qc h0,e0]),c0,_,1,.int g0,rfl,rfl,q0,rfl,sz1 _,fun l1 hl1=>?_⟩
    have s4:=aE.new (o:=.lst [.int g0]) hl1
    have a4:upd H3 l1 (.lst [.int g0]) l1=some (.lst [.int g0]):=aC
    generalize upd H3 l1 (.lst [.int g0])=H4 at s4 a4 ⊢
    refine ⟨_,rfl,p,rfl,⟨_,hp3 s4⟩,wC (K:=K) (a:=p) (xs:=xs) (vs:=(L.map rF).map V.int) (fun σ=>∃ v,σ = [v]) (by omega) (by simp [hxl]) (hp3 s4) ⟨none,rfl⟩ ?_ ?_⟩
    ·rintro i u v σ H5 hu hv ⟨v0,rfl⟩ s5 Q' k'
     obtain ⟨c1,st,kk,gg,tt,rfl,el,rfl,q1⟩:=nth (s4.trans s5) hu
     have ev:v=.int tt:=by
      rw [Qg,Qg,el] at hv
      exact (Option.some.inj hv).symm
     subst ev
     exact ⟨_,rfl,c1,_,2,.int tt,rfl,rfl,q1,rfl,k' _ H5 ⟨_,rfl⟩ (aE.refl H5)⟩
    ·intro H5 s5 l2 hl2
     have s6:=aE.new (o:=.lst ((L.map rF).map V.int)) hl2
     have a6:=s6 _ _ (s5 _ _ a4)
     have b6:upd H5 l2 (.lst ((L.map rF).map V.int)) l2=some (.lst ((L.map rF).map V.int)):=aC
     generalize upd H5 l2 (.lst ((L.map rF).map V.int))=H6 at s6 a6 b6 ⊢
     refine ⟨l1,l2,_,_,rfl,rfl,a6,b6,yL (by simp; omega),fun l3 hl3=>?_⟩
     have epass : [V.int g0]++(L.map rF).map V.int=(bU L).map V.int:=by
      cases L with
      | nil=>exact absurd rfl hne
      | cons s r =>
       have:s=st0:=Option.some.inj el0
       subst this
       rw [es0]
       rfl
     rw [epass]
     have s7:=aE.new (o:=.lst ((bU L).map V.int)) hl3
     have b7:upd H6 l3 (.lst ((bU L).map V.int)) l3=some (.lst ((bU L).map V.int)):=aC
     generalize upd H6 l3 (.lst ((bU L).map V.int))=H7 at s7 b7 ⊢
     have s37:=((s4.trans s5).trans s6).trans s7
     have pl:=zE hne
     refine ⟨_,rfl,_,rfl,p,l3,xs,_,rfl,hp3 s37,SqL.of b7,aB7 (K:=K) (k1:=.l) (k2:=.l) (a:=p) (b:=l3) (xs:=xs) (zs:=(bU L).map V.int) (vs:=((L.zip (bU L)).map fun q=>jT q.1==q.2).map V.bl) (fun σ=>∃ u v,σ = [u,v]) (by omega) (by simp; omega) (by simp [pl]; omega)
      (fun H' z=>⟨hp3 (s37.trans z),SqL.of (z _ _ b7)⟩) ⟨none,none,rfl⟩ ?_ ?_⟩
     ·rintro i u z v q σ H8 hu hz hv hq ⟨u0,v0,rfl⟩ s8 Q' k'
      have s9:=aE.new (o:=.tup [u,z]) hq
      obtain ⟨c1,st,kk,gg,tt,rfl,el,rfl,q1⟩:=nth ((s37.trans s8).trans s9) hu
      obtain ⟨zz,hzz,rfl⟩:∃ zz,(bU L)[i]?=some zz/\V.int zz=z:=by
       rw [Qg] at hz
       cases e:(bU L)[i]? with
       | none=>rw [e] at hz; cases hz
       | some zz=>rw [e] at hz; exact ⟨zz,rfl,Option.some.inj hz⟩
      have ev:v=.bl (gg==zz):=by
       have e1:(L.zip (bU L))[i]?=some ([kk,gg,tt],zz):=by rw [Jn]; exact ⟨el,hzz⟩
       rw [Qg,Qg,e1] at hv
       exact (Option.some.inj hv).symm
      subst ev
      refine ⟨q,_,rfl,SqT.of aC,rfl,_,_,rfl,_,_,rfl,rfl,?_⟩
      refine ⟨_,rfl,c1,_,1,.int gg,rfl,rfl,q1,rfl,_,rfl,rfl,?_⟩
      have eb:decide (V.int gg=V.int zz)=(gg==zz):=by
       by_cases e:gg=zz
       ·subst e; simp
       ·rw [decide_eq_false (fun q=>e (V.int.inj q))]; exact (beq_eq_false_iff_ne.mpr e).symm
      rw [eb]
      exact k' _ _ ⟨_,_,rfl⟩ s9
     ·intro H8 s8 l4 hl4
      refine ⟨l4,(L.zip (bU L)).map (fun q=>jT q.1==q.2),rfl,SqL.of aC,?_⟩
      have s9:=s8.trans (aE.new (o:=.lst (((L.zip (bU L)).map fun q=>jT q.1==q.2).map V.bl)) hl4)
      generalize upd H8 l4 (.lst (((L.zip (bU L)).map fun q=>jT q.1==q.2).map V.bl))=H9 at s9 ⊢
      have ef:((L.zip (bU L)).map fun q=>jT q.1==q.2).all id=pE L:=by rw [Xu]; rfl
      rw [ef]
      have kk:=fun H' (z:aE H9 H')=>k H' ((s1.trans (s3.trans s37)).trans (s9.trans z))
      have ew:rG ws hs L=(pE L && decide ((bU L).Nodup)):=by
       unfold rG
       rw [ha]
       cases L with
       | nil=>exact absurd rfl hne
       | cons _ _=>rfl
      rw [ew] at kk
      refine ⟨_,rfl,_,rfl,?_⟩
      refine eK (fun c1=>?_) (fun c1=>?_)
      ·rw [c1] at kk
       refine ⟨_,rfl,l3,bU L,rfl,SqL.of (s9 _ _ b7),by omega,fun l5 hl5=>?_⟩
       have s10:=aE.new (o:=.set (fun k=>decide (k∈bU L)) (kA (bU L))) hl5
       refine ⟨l5,_,_,rfl,aC,_,rfl,l3,_,rfl,.inl (SqL.of (s10 _ _ (s9 _ _ b7))),rfl,?_⟩
       have e2:decide (V.int (kA (bU L):Nat)=V.int ((bU L).map V.int).length)=decide ((bU L).Nodup):=by
        rw [Xc,decide_eq_true_iff,decide_eq_true_iff,<- yK,Qb]
        constructor
        ·intro z; have:=V.int.inj z; omega
        ·intro z; rw [z]
       rw [e2]
       exact kk _ s10
      ·rw [Zl] at c1
       rw [c1] at kk
       exact kk H9 (aE.refl _)
   ·rw [Zl] at ha
    rw [ha]
    refine gQ ?_
    have e:rG ws hs L=false:=by unfold rG; rw [ha]; simp
    rw [e] at k
    exact k H3 (s1.trans s3)
end
end Ab
namespace Ab
def dQ (ws:List (List Int)) (hs:List Int) (g:Int) (w:Nat) (t:Int):Prop:=hs[w]?=some g/\∃ l,ws[w]?=some l/\t∈l/\t≠g
def RL (ws:List (List Int)) (hs:List Int):Nat->Int->Int->Prop
 | 0,h,x=>h=x
 | k+1,h,x=>h=x∨∃ w o,dQ ws hs h w o/\RL ws hs k o x
def cS (ws:List (List Int)) (hs:List Int):Int->List (Nat×Int×Int)->Int->Prop
 | h,[],x=>h=x
 | h,s::r,x=>s.2.1=h/\dQ ws hs h s.1 s.2.2/\cS ws hs s.2.2 r x
section
variable {ws:List (List Int)} {hs:List Int}
theorem RL.refl:∀ (k:Nat) (h:Int),RL ws hs k h h
 | 0,_=>rfl
 | _+1,_=>.inl rfl
theorem RL.succ:∀ {k:Nat} {h x:Int},RL ws hs k h x->RL ws hs (k+1) h x
 | 0,_,_,e=>.inl e
 | k+1,_,_,.inl e=>.inl e
 | k+1,_,_,.inr ⟨w,o,e,r⟩=>.inr ⟨w,o,e,RL.succ r⟩
theorem RL.mono {k m:Nat} {h x:Int} (r:RL ws hs k h x) (le:k<=m):RL ws hs m h x:=by
 induction le with
 | refl=>exact r
 | step _ ih=>exact ih.succ
theorem RL.snoc:∀ {k:Nat} {h g t:Int} {w:Nat},RL ws hs k h g->dQ ws hs g w t->RL ws hs (k+1) h t
 | 0,_,_,_,w,e,d=>by subst e; exact .inr ⟨w,_,d,rfl⟩
 | k+1,_,_,_,w,.inl e,d=>by subst e; exact .inr ⟨w,_,d,RL.refl _ _⟩
 | k+1,_,_,_,_,.inr ⟨w',o,e,r⟩,d=>.inr ⟨w',o,e,RL.snoc r d⟩
theorem RL.closed {S:Int->Prop} (hc:∀ g w t,S g->dQ ws hs g w t->S t):∀ {k:Nat} {h x:Int},S h->RL ws hs k h x->S x
 | 0,_,_,s,e=>e ▸ s
 | _+1,_,_,s,.inl e=>e ▸ s
 | _+1,_,_,s,.inr ⟨w,o,e,r⟩=>RL.closed hc (hc _ w o s e) r
def nH (ws:List (List Int)) (hs:List Int) (n:Nat) (h v:Int):Prop:=(∃ x,RL ws hs n h x/\v=((hs.count x:Nat):Int))/\∀ k x,RL ws hs k h x->v<=((hs.count x:Nat):Int)
theorem nH.le {n:Nat} {h v:Int} (m:nH ws hs n h v):v<=((hs.count h:Nat):Int):=m.2 0 h rfl
theorem nH.edge {n:Nat} {h o v u:Int} {w:Nat} (m:nH ws hs n h v) (m2:nH ws hs n o u) (e:dQ ws hs h w o):v<=u:=by
 obtain ⟨x,r,rfl⟩:=m2.1
 exact m.2 (n+1) x (show RL ws hs (n+1) h x from .inr ⟨w,o,e,r⟩)
def gJ (n:Int) (ws:List (List Int)) (hs lv:List Int):Prop:=lv.length=n.toNat/\∀ (h:Nat) (v:Int),lv[h]?=some v->nH ws hs n.toNat h v/\((hs.count (h:Int):Nat):Int) - v < 2
def oR (n:Int) (ws:List (List Int)) (hs:List Int) (ss:List (Nat×Int×Int)):Prop :=
 ∃ h x,ss≠[]/\cS ws hs h ss x/\(h::ss.map (·.2.2)).Nodup/\0<=h/\h < n/\RL ws hs n.toNat h x/\2<=((hs.count h:Nat):Int) - ((hs.count x:Nat):Int)
end
theorem lE:∀ (n:Nat) (l:List Int),l.Nodup->(∀ x∈l,0<=x/\x < (n:Int))->l.length<=n
 | 0,[],_,_=>Qh _
 | 0,x::_,_,h=>by have:=h x (.head _); omega
 | n+1,l,hn,h=>by
  by_cases hm:(n:Int)∈l
  ·have h1:=lE n (l.erase (n:Int)) (hn.erase _) fun x hx=>by
    have h2:=(hn.mem_erase_iff).mp hx
    have h3:=h x h2.2
    have:=h2.1
    omega
   rw [List.length_erase_of_mem hm] at h1
   omega
  ·have h1:=lE n l hn fun x hx=>by
    have h3:=h x hx
    have:x≠(n:Int):=fun z=>hm (z ▸ hx)
    omega
   omega
end Ab
namespace L2
open PySem
theorem aE.wr {H H':Hp} {a:Addr} {u:HO} (e:aE H H') (h:H a=none):aE H (upd H' a u):=fun b o q=>by
 rw [aI (fun z=>by rw [z,h] at q; cases q)]
 exact e b o q
end L2
namespace Ab
open PySem L2
theorem aCO {n:Nat} {k:Int} (h0:0<=k) (h1:k < n):ixN n k=some k.toNat:=by
 unfold ixN
 rw [if_pos h0,if_pos (by omega)]
def oA (E:Nat->Int->Prop) (r:List (Key×V)):Prop:=(∀ k v,dP r k=some v->∃ (w:Nat) (t:Int),k=.inl t/\v=.int (w:Nat)/\E w t)/\∀ w t,E w t->(dP r (.inl t)).isSome=true
theorem oA.nil {E:Nat->Int->Prop} (h:∀ w t,¬ E w t):oA E []:=⟨fun k v e=>(by rw [aCb] at e; cases e),fun w t e=>(h w t e).elim⟩
theorem oA.put {E:Nat->Int->Prop} {r:List (Key×V)} (h:oA E r) (w:Nat) (t:Int):oA (fun w' t'=>E w' t'∨(w'=w/\t'=t)) (hV r (.inl t) (.int (w:Nat))):=by
 refine ⟨fun k v e=>?_,fun w' t' e=>?_⟩
 ·rw [wH] at e
  by_cases hk:k=Sum.inl t
  ·rw [if_pos hk] at e
   exact ⟨w,t,hk,(Option.some.inj e).symm,.inr ⟨rfl,rfl⟩⟩
  ·rw [if_neg hk] at e
   obtain ⟨w',t',h1,h2,h3⟩:=h.1 k v e
   exact ⟨w',t',h1,h2,.inl h3⟩
 ·rw [wH]
  by_cases hk:(Sum.inl t':Key)=Sum.inl t
  ·rw [if_pos hk]; rfl
  ·rw [if_neg hk]
   rcases e with e | ⟨_,e⟩
   ·exact h.2 w' t' e
   ·exact absurd (by rw [e]) hk
theorem oA.congr {E E':Nat->Int->Prop} {r:List (Key×V)} (h:oA E r) (e:∀ w t,E w t↔E' w t):oA E' r:=⟨fun k v q=>let ⟨w,t,a,b,c⟩:=h.1 k v q; ⟨w,t,a,b,(e w t).mp c⟩,fun w t q=>h.2 w t ((e w t).mpr q)⟩
structure Rows (H:Hp) (rp:Addr) (qs:List Addr) (rs:List (List (Key×V))):Prop where
 lst:H rp=some (.lst (qs.map V.ref))
 len:qs.length=rs.length
 nd:qs.Nodup
 row:∀ (g:Nat) q r,qs[g]?=some q->rs[g]?=some r->H q=some (.dK r)
theorem Rows.same {H H':Hp} {rp:Addr} {qs:List Addr} {rs:List (List (Key×V))} (h:Rows H rp qs rs) (s:aE H H'):Rows H' rp qs rs:=⟨s _ _ h.lst,h.len,h.nd,fun g q r a b=>s _ _ (h.row g q r a b)⟩
theorem Rows.put {H:Hp} {rp:Addr} {qs:List Addr} {rs:List (List (Key×V))} (h:Rows H rp qs rs) {g:Nat} {q:Addr} {r r':List (Key×V)} (hq:qs[g]?=some q) (hr:rs[g]?=some r):Rows (upd H q (.dK r')) rp qs (rs.set g r'):=by
 have hg:=h.row g q r hq hr
 have nq:rp≠q:=fun z=>by have:=h.lst; rw [z,hg] at this; cases this
 refine ⟨by rw [aI nq]; exact h.lst,by rw [Xk]; exact h.len,h.nd,fun g2 q2 r2 h1 h2=>?_⟩
 rw [Xi] at h2
 by_cases e:g=g2
 ·subst e
  rw [if_pos rfl] at h2
  rw [hq] at h1
  cases h1
  by_cases hl:g < rs.length
  ·rw [if_pos hl] at h2; cases h2; exact aC
  ·rw [if_neg hl] at h2; cases h2
 ·rw [if_neg e] at h2
  have n2:q2≠q:=fun z=>by
   subst z
   have hlt:g < qs.length:=(Qd.mp hq).1
   exact e ((List.getElem?_inj hlt h.nd).mp (hq.trans h1.symm))
  rw [aI n2]
  exact h.row g2 q2 r2 h1 h2
def oS (E:Int->Nat->Int->Prop) (rs:List (List (Key×V))) (m:Nat):Prop:=∀ (g:Nat) r,rs[g]?=some r->oA (E g) r/\r.length<=m
section
variable {P:Program} {w:World} {K:PySem.W.Frag} {mg:Str->Option Value} {base:Heap}
def oB (K:PySem.W.Frag):Sp:=fun vs H Q _=>∃ x y n ws hs,vs = [x,y]/\dM K H x y n ws hs/\∀ rp H' qs rs,aE H H'->H rp=none->(∀ q∈qs,H q=none)->Rows H' rp qs rs->rs.length=n.toNat->oS (dQ ws hs) rs 100->Q (.ref rp) H'
theorem cT:FnScope ["book", "deal", "rows", "work", "giver", "able", "taker"] ["book", "deal"] (aF gE):=⟨rfl,rfl,rfl,by decide +kernel,rfl,by decide +kernel,by decide +kernel⟩
theorem rH {f:Addr} {fd:FuncData} (G:Fn K mg "handing" gE ["book", "deal"] f fd) (B:Bl mg):FnOk P w K mg base CX0 1 f fd ["book", "deal"] (oB K):=by
 refine G.fn.ok cT (fun vs H Q E h=>?_) (fun cdv A outer s H vs Q E hr h=>?_)
 ·obtain ⟨x,y,n,ws,hs,rfl,_⟩:=h
  rfl
 ·obtain ⟨x,y,n,ws,hs,rfl,g,k⟩:=h
  refine ⟨_,(aD (jL (i:=2) (own:=["hand"]) (fr:=[]) (frn:=[]) (aV (aF gE) ["book", "deal", "rows", "work", "giver", "able", "taker"] rfl rfl (by decide +kernel)) rfl cT.nd rfl rfl rfl (cK rfl B.range (aA (aU aZ (pv 0) aJ (fun _ _=>rfl)) aB))
    (fun _ _ _ _=>(aH (i:=0) (show (["hand"]:List Str).Nodup by decide +kernel) rfl (Or.inl rfl))) (fun _ _ _ _=>cA)
    (fun _ _ _ _=>wK))
   (aD (dZ PassesOwn.never rfl (qB .t .t rfl B.enumerate rfl B.zip (aA (pv 1) (aA (aU aZ (pv 0) aJ (fun _ _=>rfl)) aB))) (eU rfl (aQ (aH (i:=3) cT.nd rfl (Or.inl rfl)) (aQ (eU rfl (aQ (aH (i:=4) cT.nd rfl (Or.inl rfl)) (aQ (aH (i:=5) cT.nd rfl (Or.inl rfl)) cH))) cH)))
    (aG (dZ PassesOwn.never rfl (eL (pv 5)) (aH (i:=6) cT.nd rfl (Or.inl rfl))
     (aG (bT (bB gW (pv 6) (pv 4) (bE _))
      (aG (uP (pO hr) (aU eA (pv 2) (pv 4) (fun _ _=>rfl)) (pv 6) (pv 3) rfl))
      aW)))))
   (aG (aO (pv 2))))),?_⟩
  obtain ⟨hl12,hn1,hn6⟩:=g.len
  obtain ⟨a,b,ys,rfl,ha,hb2,hys⟩:=bS g.1
  obtain ⟨c0,rfl,hc0⟩:=aP.mp g.2.2.1
  obtain ⟨hdl,hdg⟩:=bF g.2.2.2
  obtain ⟨_,_,hw12,hws⟩:=bC g.2.1
  have hlw:=aN hys
  rw [Qb] at hlw
  refine ⟨_,rfl,a,_,0,.int n,rfl,rfl,ha,rfl,n,rfl,by omega,by omega,eC (lo:=0) (n:=n.toNat) (fun σ=>∃ v,σ = [v]) (fun i zs H2=>∃ qs:List Addr,zs=qs.map V.ref/\qs.length=i/\aE H H2/\qs.Nodup/\∀ q∈qs,H q=none/\H2 q=some (.dK [])) ?_ ⟨none,rfl⟩ ⟨[],rfl,rfl,aE.refl H,List.nodup_nil,fun _ h=>(Qo h).elim⟩ ?_ ?_ ?_⟩
  ·rw [sizeLine_eq]; omega
  ·rintro i zs H2 ⟨qs,rfl,hq,_⟩
   rw [Qb]; omega
  ·rintro i zs σ H2 hi ⟨v,rfl⟩ ⟨qs,rfl,hq,s2,nd,hqs⟩ hz
   refine bK ?_
   intro p hp
   refine ⟨hz,⟨_,rfl⟩,qs++[p],by rw [Qx]; rfl,by rw [Qk,hq]; rfl,s2.trans (aE.new hp),?_,fun q hq'=>?_⟩
   ·rw [Zw]
    refine ⟨nd,by simp,fun x hx y hy e=>?_⟩
    rw [Qu.mp hy] at e
    have:=(hqs x hx).2
    rw [e,hp] at this; cases this
   ·rcases Jk.mp hq' with h | h
    ·exact ⟨(hqs q h).1,(aE.new hp) _ _ (hqs q h).2⟩
    ·rw [Qu.mp h]
     exact ⟨s2.free hp,aC⟩
  ·rintro zs H2 ⟨qs,rfl,hq,s2,nd,hqs⟩ rp hrp
   have s3:=s2.trans (aE.new (o:=.lst (qs.map V.ref)) hrp)
   have hrp0:H rp=none:=s2.free hrp
   have R3:Rows (upd H2 rp (.lst (qs.map V.ref))) rp qs (List.replicate n.toNat []):=⟨aC,by rw [Ji]; exact hq,nd,fun g q r h1 h2=>by
    have er:r = []:=by
     rw [Jp] at h2
     split at h2
     ·exact (Option.some.inj h2).symm
     ·cases h2
    rw [er]
    exact (aE.new hrp) _ _ (hqs q (Qe h1)).2⟩
   generalize upd H2 rp (.lst (qs.map V.ref))=H3 at s3 R3 ⊢
   have h6:∀ l∈ws,l.length<=6:=fun l hl=>by
    obtain ⟨_,w2,w3⟩:=bL (hws l hl)
    have:=fM (by omega) w2 w3
    omega
   refine ⟨_,rfl,_,rfl,a,_,1,.ref b,rfl,rfl,s3.seqT ha,rfl,c0,b,_,_,rfl,s3.seqT hc0,s3.seqT hb2,oN (K:=K) (k1:=.t) (k2:=.t) (a:=c0) (b:=b) (xs:=hs.map V.int) (ys:=ys)
    (fun i σ H4=>(∃ v3 v4 v5 v6,σ = [some (.ref a),some (.ref c0),some (.ref rp),v3,v4,v5,v6])/\aE H H4/\∃ rs,Rows H4 rp qs rs/\rs.length=n.toNat/\oS (fun g w t=>w < i/\dQ ws hs g w t) rs (6*i))
    (by rw [Qb]; omega) ⟨⟨_,_,_,_,rfl⟩,s3,_,R3,Ji,fun g r hr=>?_⟩ (fun _ σ H4 _ ⟨_,s4,_⟩=>⟨s4.seqT hc0,s4.seqT hb2⟩) ?_ ?_⟩
   ·have er:r = []:=by
     rw [Jp] at hr
     split at hr
     ·exact (Option.some.inj hr).symm
     ·cases hr
    rw [er]
    exact ⟨oA.nil fun w t h=>by omega,Jo _⟩
   ·rintro i u v p q σ H4 hu hv ⟨⟨v3,v4,v5,v6,rfl⟩,s4,rs,R4,hl4,E4⟩ hp hq hne
    obtain ⟨h,hh,rfl⟩:=iO hu
    obtain ⟨dv,hdv,denv⟩:=cC hys hv
    rw [Qg] at hdv
    obtain ⟨l,hl,rfl⟩:∃ l,ws[i]?=some l/\bO l=dv:=by
     cases q:ws[i]? with
     | none=>rw [q] at hdv; cases hdv
     | some l=>rw [q] at hdv; exact ⟨l,rfl,Option.some.inj hdv⟩
    obtain ⟨aw,rfl,haw⟩:=aP.mp denv
    obtain ⟨hh0,hh1⟩:=g.hand hh
    have hl6:=h6 l (Qe hl)
    have hi12:i < 12:=by
     have:=(Qd.mp hh).1
     omega
    have sp:=aE.new (o:=.tup [.int h,.ref aw]) hp
    have hq1:upd H4 p (.tup [.int h,.ref aw]) q=none:=by rw [aI hne]; exact hq
    have sq:=aE.new (o:=.tup [.int (i:Nat),.ref p]) hq1
    have ep:upd (upd H4 p (.tup [.int h,.ref aw])) q (.tup [.int (i:Nat),.ref p]) p=some (.tup [.int h,.ref aw]):=sq _ _ aC
    have eq:upd (upd H4 p (.tup [.int h,.ref aw])) q (.tup [.int (i:Nat),.ref p]) q=some (.tup [.int (i:Nat),.ref p]):=aC
    have s5:=s4.trans (sp.trans sq)
    have R5:=R4.same (sp.trans sq)
    generalize upd (upd H4 p (.tup [.int h,.ref aw])) q (.tup [.int (i:Nat),.ref p])=H5 at ep eq s5 R5 ⊢
    refine ⟨q,_,rfl,SqT.of eq,rfl,_,_,rfl,_,_,rfl,p,_,rfl,SqT.of ep,rfl,_,_,rfl,_,_,rfl,rfl,rfl,?_⟩
    have hgl:h.toNat < qs.length:=by rw [R5.len,hl4]; omega
    obtain ⟨qh,hqh⟩:∃ qh,qs[h.toNat]?=some qh:=⟨_,Qc hgl⟩
    have hcast:((h.toNat:Nat):Int)=h:=by omega
    refine ⟨_,rfl,aw,rfl,⟨_,s5.seqT haw⟩,uE (K:=K) (a:=aw) (xs:=l.map V.int) (fun j σ H6=>(∃ v6,σ = [some (.ref a),some (.ref c0),some (.ref rp),some (.int (i:Nat)),some (.int h),some (.ref aw),v6])/\aE H H6/\∃ rs,Rows H6 rp qs rs/\rs.length=n.toNat/\oS (fun g w t=>(w < i/\dQ ws hs g w t)∨(w=i/\g=h/\t∈l.take j/\t≠h)) rs (6*i+j))
     ⟨⟨_,rfl⟩,s5,rs,R5,hl4,fun g r hr=>⟨(E4 g r hr).1.congr fun w t=>⟨.inl,fun z=>z.elim id fun z=>by rw [Zh] at z; exact (Qo z.2.2.1).elim⟩,(E4 g r hr).2⟩⟩ (fun _ σ H6 _ ⟨_,s6,_⟩=>s6.seqT haw) ?_ ?_⟩
    ·rintro j tv σ H6 htv ⟨⟨v6,rfl⟩,s6,rs,R6,hl6',E6⟩
     obtain ⟨t,ht,rfl⟩:=iO htv
     have hj:j < l.length:=(Qd.mp ht).1
     have etake:l.take (j+1)=l.take j++[t]:=by rw [Jh,ht]; rfl
     refine ⟨_,rfl,_,rfl,rfl,_,rfl,?_⟩
     refine eK (fun c=>?_) (fun c=>?_)
     ·have hth:t≠h:=fun z=>by rw [z] at c; simp at c
      obtain ⟨r,hr⟩:∃ r,rs[h.toNat]?=some r:=⟨_,Qc (by rw [hl6']; omega)⟩
      have hat:atI (qs.map V.ref) h=some (.ref qh):=by
       have:=cI (xs:=qs.map V.ref) (j:=h.toNat) (v:=.ref qh) (by rw [Qg,hqh]; rfl)
       rwa [hcast] at this
      have hrow:=R6.row _ _ _ hqh hr
      have hrl:=(E6 _ _ hr).2
      have hqH:H qh=none:=(hqs qh (Qe hqh)).1
      refine ⟨_,rfl,_,rfl,_,rfl,rp,_,h,_,rfl,rfl,SqL.of R6.lst,hat,_,rfl,qh,_,rfl,uM.k (k:=.inl t) hrow (by rw [sizeLine_eq]; omega),?_⟩
      refine ⟨⟨_,rfl⟩,s6.wr hqH,rs.set h.toNat (hV r (.inl t) (.int (i:Nat))),R6.put hqh hr,by rw [Xk]; exact hl6',fun g2 r2 hr2=>?_⟩
      rw [Xi] at hr2
      by_cases eg:h.toNat=g2
      ·rw [if_pos eg,if_pos (by rw [hl6']; omega)] at hr2
       cases hr2
       have eg':((g2:Nat):Int)=h:=by omega
       refine ⟨((E6 _ _ hr).1.put i t).congr fun w t'=>?_,Qz (fU _ _ _) (by omega)⟩
       rw [hcast,eg',etake]
       constructor
       ·rintro ((z | ⟨z1,z2,z3,z4⟩) | ⟨z1,z2⟩)
        ·exact .inl z
        ·exact .inr ⟨z1,z2,Jl _ z3,z4⟩
        ·exact .inr ⟨z1,rfl,by rw [z2]; simp,by rw [z2]; exact hth⟩
       ·rintro (z | ⟨z1,z2,z3,z4⟩)
        ·exact .inl (.inl z)
        ·rcases Jk.mp z3 with z3 | z3
         ·exact .inl (.inr ⟨z1,z2,z3,z4⟩)
         ·exact .inr ⟨z1,Qu.mp z3⟩
      ·rw [if_neg eg] at hr2
       refine ⟨(E6 _ _ hr2).1.congr fun w t'=>?_,Qz (E6 _ _ hr2).2 (by omega)⟩
       have ng:¬ ((g2:Nat):Int)=h:=by omega
       constructor
       ·rintro (z | ⟨_,z2,_⟩)
        ·exact .inl z
        ·exact absurd z2 ng
       ·rintro (z | ⟨_,z2,_⟩)
        ·exact .inl z
        ·exact absurd z2 ng
     ·have hth:t=h:=by simpa using c
      refine ⟨⟨_,rfl⟩,s6,rs,R6,hl6',fun g2 r2 hr2=>⟨(E6 _ _ hr2).1.congr fun w t'=>?_,Qz (E6 _ _ hr2).2 (by omega)⟩⟩
      rw [etake]
      constructor
      ·rintro (z | ⟨z1,z2,z3,z4⟩)
       ·exact .inl z
       ·exact .inr ⟨z1,z2,Jl _ z3,z4⟩
      ·rintro (z | ⟨z1,z2,z3,z4⟩)
       ·exact .inl z
       ·rcases Jk.mp z3 with z3 | z3
        ·exact .inr ⟨z1,z2,z3,z4⟩
        ·exact absurd ((Qu.mp z3).trans hth) z4
    ·rintro σ H6 ⟨⟨v6,rfl⟩,s6,rs,R6,hl6',E6⟩
     refine ⟨⟨_,_,_,_,rfl⟩,s6,rs,R6,hl6',fun g2 r2 hr2=>⟨(E6 _ _ hr2).1.congr fun w t'=>?_,Qz (E6 _ _ hr2).2 (by rw [Qb]; omega)⟩⟩
     rw [Qb,Js]
     constructor
     ·rintro (⟨z1,z2⟩ | ⟨z1,z2,z3,z4⟩)
      ·exact ⟨by omega,z2⟩
      ·subst z1
       exact ⟨by omega,by rw [hh,z2],l,hl,z3,by rw [z2]; exact z4⟩
     ·rintro ⟨z1,z2⟩
      by_cases hw:w < i
      ·exact .inl ⟨hw,z2⟩
      ·have ew:w=i:=by omega
       subst ew
       obtain ⟨z3,l',z4,z5,z6⟩:=z2
       rw [hh] at z3
       rw [hl] at z4
       cases z4
       have ez:h=g2:=Option.some.inj z3
       exact .inr ⟨rfl,ez.symm,z5,by rw [ez]; exact z6⟩
   ·rintro σ H4 ⟨⟨v3,v4,v5,v6,rfl⟩,s4,rs,R4,hl4,E4⟩
    refine ⟨_,rfl,k rp H4 qs rs s4 hrp0 (fun q hq=>(hqs q hq).1) R4 hl4 fun g r hr=>⟨(E4 g r hr).1.congr fun w t=>⟨fun z=>z.2,fun z=>⟨?_,z⟩⟩,Qz (E4 g r hr).2 (by rw [Qb]; omega)⟩⟩
    rw [Qb]
    exact (Qd.mp z.1).1
def rJ (K:PySem.W.Frag) (H:Hp) (x:V) (y:Addr) (n:Int) (ws:List (List Int)) (hs:List Int):Prop:=Den K H (bY n ws) x/\cG (bY n ws)=true/\SqL K H y (hs.map V.int)/\cR ws (cM hs)=true
theorem rJ.len {H:Hp} {x:V} {y:Addr} {n:Int} {ws:List (List Int)} {hs:List Int} (g:rJ K H x y n ws hs):hs.length<=12/\1<=n/\n<=6:=by
 obtain ⟨h1,h2,h3,_⟩:=bC g.2.1
 have:=(bF g.2.2.2).1
 omega
theorem rJ.hand {H:Hp} {x:V} {y:Addr} {n:Int} {ws:List (List Int)} {hs:List Int} (g:rJ K H x y n ws hs) {i:Nat} {h:Int} (e:hs[i]?=some h):0<=h/\h < n:=by
 obtain ⟨_,_,_,hws⟩:=bC g.2.1
 obtain ⟨hl,hm⟩:=bF g.2.2.2
 have hi:i < ws.length:=by rw [<- hl]; exact (Qd.mp e).1
 have hw:=Qc hi
 exact (bL (hws _ (Qe hw))).2.1 h (hm i h _ e hw)
def rK (K:PySem.W.Frag):Sp:=fun vs H Q _=>∃ x y n ws hs,vs = [x,.ref y]/\rJ K H x y n ws hs/\∀ rp H' qs rs,aE H H'->H rp=none->(∀ q∈qs,H q=none)->Rows H' rp qs rs->rs.length=n.toNat->oS (dQ ws hs) rs 100->Q (.ref rp) H'
theorem xA {f:Addr} {fd:FuncData} (G:Fn K mg "handing" gE ["book", "deal"] f fd) (B:Bl mg):FnOk P w K mg base CX0 1 f fd ["book", "deal"] (rK K):=by
 refine G.fn.ok cT (fun vs H Q E h=>?_) (fun cdv A outer s H vs Q E hr h=>?_)
 ·obtain ⟨x,y,n,ws,hs,rfl,_⟩:=h
  rfl
 ·obtain ⟨x,y,n,ws,hs,rfl,g,k⟩:=h
  refine ⟨_,(aD (jL (i:=2) (own:=["hand"]) (fr:=[]) (frn:=[]) (aV (aF gE) ["book", "deal", "rows", "work", "giver", "able", "taker"] rfl rfl (by decide +kernel)) rfl cT.nd rfl rfl rfl (cK rfl B.range (aA (aU aZ (pv 0) aJ (fun _ _=>rfl)) aB))
    (fun _ _ _ _=>(aH (i:=0) (show (["hand"]:List Str).Nodup by decide +kernel) rfl (Or.inl rfl))) (fun _ _ _ _=>cA)
    (fun _ _ _ _=>wK))
   (aD (dZ PassesOwn.never rfl (qB .l .t rfl B.enumerate rfl B.zip (aA (pv 1) (aA (aU aZ (pv 0) aJ (fun _ _=>rfl)) aB))) (eU rfl (aQ (aH (i:=3) cT.nd rfl (Or.inl rfl)) (aQ (eU rfl (aQ (aH (i:=4) cT.nd rfl (Or.inl rfl)) (aQ (aH (i:=5) cT.nd rfl (Or.inl rfl)) cH))) cH)))
    (aG (dZ PassesOwn.never rfl (eL (pv 5)) (aH (i:=6) cT.nd rfl (Or.inl rfl))
     (aG (bT (bB gW (pv 6) (pv 4) (bE _))
      (aG (uP (pO hr) (aU eA (pv 2) (pv 4) (fun _ _=>rfl)) (pv 6) (pv 3) rfl))
      aW)))))
   (aG (aO (pv 2))))),?_⟩
  obtain ⟨hl12,hn1,hn6⟩:=g.len
  obtain ⟨a,b,ys,rfl,ha,hb2,hys⟩:=bS g.1
  have hy:=g.2.2.1
  obtain ⟨hdl,hdg⟩:=bF g.2.2.2
  obtain ⟨_,_,hw12,hws⟩:=bC g.2.1
  have hlw:=aN hys
  rw [Qb] at hlw
  refine ⟨_,rfl,a,_,0,.int n,rfl,rfl,ha,rfl,n,rfl,by omega,by omega,eC (lo:=0) (n:=n.toNat) (fun σ=>∃ v,σ = [v]) (fun i zs H2=>∃ qs:List Addr,zs=qs.map V.ref/\qs.length=i/\aE H H2/\qs.Nodup/\∀ q∈qs,H q=none/\H2 q=some (.dK [])) ?_ ⟨none,rfl⟩ ⟨[],rfl,rfl,aE.refl H,List.nodup_nil,fun _ h=>(Qo h).elim⟩ ?_ ?_ ?_⟩
  ·rw [sizeLine_eq]; omega
  ·rintro i zs H2 ⟨qs,rfl,hq,_⟩
   rw [Qb]; omega
  ·rintro i zs σ H2 hi ⟨v,rfl⟩ ⟨qs,rfl,hq,s2,nd,hqs⟩ hz
   refine bK ?_
   intro p hp
   refine ⟨hz,⟨_,rfl⟩,qs++[p],by rw [Qx]; rfl,by rw [Qk,hq]; rfl,s2.trans (aE.new hp),?_,fun q hq'=>?_⟩
   ·rw [Zw]
    refine ⟨nd,by simp,fun x hx y hy e=>?_⟩
    rw [Qu.mp hy] at e
    have:=(hqs x hx).2
    rw [e,hp] at this; cases this
   ·rcases Jk.mp hq' with h | h
    ·exact ⟨(hqs q h).1,(aE.new hp) _ _ (hqs q h).2⟩
    ·rw [Qu.mp h]
     exact ⟨s2.free hp,aC⟩
  ·rintro zs H2 ⟨qs,rfl,hq,s2,nd,hqs⟩ rp hrp
   have s3:=s2.trans (aE.new (o:=.lst (qs.map V.ref)) hrp)
   have hrp0:H rp=none:=s2.free hrp
   have R3:Rows (upd H2 rp (.lst (qs.map V.ref))) rp qs (List.replicate n.toNat []):=⟨aC,by rw [Ji]; exact hq,nd,fun g q r h1 h2=>by
    have er:r = []:=by
     rw [Jp] at h2
     split at h2
     ·exact (Option.some.inj h2).symm
     ·cases h2
    rw [er]
    exact (aE.new hrp) _ _ (hqs q (Qe h1)).2⟩
   generalize upd H2 rp (.lst (qs.map V.ref))=H3 at s3 R3 ⊢
   have h6:∀ l∈ws,l.length<=6:=fun l hl=>by
    obtain ⟨_,w2,w3⟩:=bL (hws l hl)
    have:=fM (by omega) w2 w3
    omega
   refine ⟨_,rfl,_,rfl,a,_,1,.ref b,rfl,rfl,s3.seqT ha,rfl,y,b,_,_,rfl,s3.seqL hy,s3.seqT hb2,oN (K:=K) (k1:=.l) (k2:=.t) (a:=y) (b:=b) (xs:=hs.map V.int) (ys:=ys)
    (fun i σ H4=>(∃ v3 v4 v5 v6,σ = [some (.ref a),some (.ref y),some (.ref rp),v3,v4,v5,v6])/\aE H H4/\∃ rs,Rows H4 rp qs rs/\rs.length=n.toNat/\oS (fun g w t=>w < i/\dQ ws hs g w t) rs (6*i))
    (by rw [Qb]; omega) ⟨⟨_,_,_,_,rfl⟩,s3,_,R3,Ji,fun g r hr=>?_⟩ (fun _ σ H4 _ ⟨_,s4,_⟩=>⟨s4.seqL hy,s4.seqT hb2⟩) ?_ ?_⟩
   ·have er:r = []:=by
     rw [Jp] at hr
     split at hr
     ·exact (Option.some.inj hr).symm
     ·cases hr
    rw [er]
    exact ⟨oA.nil fun w t h=>by omega,Jo _⟩
   ·rintro i u v p q σ H4 hu hv ⟨⟨v3,v4,v5,v6,rfl⟩,s4,rs,R4,hl4,E4⟩ hp hq hne
    obtain ⟨h,hh,rfl⟩:=iO hu
    obtain ⟨dv,hdv,denv⟩:=cC hys hv
    rw [Qg] at hdv
    obtain ⟨l,hl,rfl⟩:∃ l,ws[i]?=some l/\bO l=dv:=by
     cases q:ws[i]? with
     | none=>rw [q] at hdv; cases hdv
     | some l=>rw [q] at hdv; exact ⟨l,rfl,Option.some.inj hdv⟩
    obtain ⟨aw,rfl,haw⟩:=aP.mp denv
    obtain ⟨hh0,hh1⟩:=g.hand hh
    have hl6:=h6 l (Qe hl)
    have hi12:i < 12:=by
     have:=(Qd.mp hh).1
     omega
    have sp:=aE.new (o:=.tup [.int h,.ref aw]) hp
    have hq1:upd H4 p (.tup [.int h,.ref aw]) q=none:=by rw [aI hne]; exact hq
    have sq:=aE.new (o:=.tup [.int (i:Nat),.ref p]) hq1
    have ep:upd (upd H4 p (.tup [.int h,.ref aw])) q (.tup [.int (i:Nat),.ref p]) p=some (.tup [.int h,.ref aw]):=sq _ _ aC
    have eq:upd (upd H4 p (.tup [.int h,.ref aw])) q (.tup [.int (i:Nat),.ref p]) q=some (.tup [.int (i:Nat),.ref p]):=aC
    have s5:=s4.trans (sp.trans sq)
    have R5:=R4.same (sp.trans sq)
    generalize upd (upd H4 p (.tup [.int h,.ref aw])) q (.tup [.int (i:Nat),.ref p])=H5 at ep eq s5 R5 ⊢
    refine ⟨q,_,rfl,SqT.of eq,rfl,_,_,rfl,_,_,rfl,p,_,rfl,SqT.of ep,rfl,_,_,rfl,_,_,rfl,rfl,rfl,?_⟩
    have hgl:h.toNat < qs.length:=by rw [R5.len,hl4]; omega
    obtain ⟨qh,hqh⟩:∃ qh,qs[h.toNat]?=some qh:=⟨_,Qc hgl⟩
    have hcast:((h.toNat:Nat):Int)=h:=by omega
    refine ⟨_,rfl,aw,rfl,⟨_,s5.seqT haw⟩,uE (K:=K) (a:=aw) (xs:=l.map V.int) (fun j σ H6=>(∃ v6,σ = [some (.ref a),some (.ref y),some (.ref rp),some (.int (i:Nat)),some (.int h),some (.ref aw),v6])/\aE H H6/\∃ rs,Rows H6 rp qs rs/\rs.length=n.toNat/\oS (fun g w t=>(w < i/\dQ ws hs g w t)∨(w=i/\g=h/\t∈l.take j/\t≠h)) rs (6*i+j))
     ⟨⟨_,rfl⟩,s5,rs,R5,hl4,fun g r hr=>⟨(E4 g r hr).1.congr fun w t=>⟨.inl,fun z=>z.elim id fun z=>by rw [Zh] at z; exact (Qo z.2.2.1).elim⟩,(E4 g r hr).2⟩⟩ (fun _ σ H6 _ ⟨_,s6,_⟩=>s6.seqT haw) ?_ ?_⟩
    ·rintro j tv σ H6 htv ⟨⟨v6,rfl⟩,s6,rs,R6,hl6',E6⟩
     obtain ⟨t,ht,rfl⟩:=iO htv
     have hj:j < l.length:=(Qd.mp ht).1
     have etake:l.take (j+1)=l.take j++[t]:=by rw [Jh,ht]; rfl
     refine ⟨_,rfl,_,rfl,rfl,_,rfl,?_⟩
     refine eK (fun c=>?_) (fun c=>?_)
     ·have hth:t≠h:=fun z=>by rw [z] at c; simp at c
      obtain ⟨r,hr⟩:∃ r,rs[h.toNat]?=some r:=⟨_,Qc (by rw [hl6']; omega)⟩
      have hat:atI (qs.map V.ref) h=some (.ref qh):=by
       have:=cI (xs:=qs.map V.ref) (j:=h.toNat) (v:=.ref qh) (by rw [Qg,hqh]; rfl)
       rwa [hcast] at this
      have hrow:=R6.row _ _ _ hqh hr
      have hrl:=(E6 _ _ hr).2
      have hqH:H qh=none:=(hqs qh (Qe hqh)).1
      refine ⟨_,rfl,_,rfl,_,rfl,rp,_,h,_,rfl,rfl,SqL.of R6.lst,hat,_,rfl,qh,_,rfl,uM.k (k:=.inl t) hrow (by rw [sizeLine_eq]; omega),?_⟩
      refine ⟨⟨_,rfl⟩,s6.wr hqH,rs.set h.toNat (hV r (.inl t) (.int (i:Nat))),R6.put hqh hr,by rw [Xk]; exact hl6',fun g2 r2 hr2=>?_⟩
      rw [Xi] at hr2
      by_cases eg:h.toNat=g2
      ·rw [if_pos eg,if_pos (by rw [hl6']; omega)] at hr2
       cases hr2
       have eg':((g2:Nat):Int)=h:=by omega
       refine ⟨((E6 _ _ hr).1.put i t).congr fun w t'=>?_,Qz (fU _ _ _) (by omega)⟩
       rw [hcast,eg',etake]
       constructor
       ·rintro ((z | ⟨z1,z2,z3,z4⟩) | ⟨z1,z2⟩)
        ·exact .inl z
        ·exact .inr ⟨z1,z2,Jl _ z3,z4⟩
        ·exact .inr ⟨z1,rfl,by rw [z2]; simp,by rw [z2]; exact hth⟩
       ·rintro (z | ⟨z1,z2,z3,z4⟩)
        ·exact .inl (.inl z)
        ·rcases Jk.mp z3 with z3 | z3
         ·exact .inl (.inr ⟨z1,z2,z3,z4⟩)
         ·exact .inr ⟨z1,Qu.mp z3⟩
      ·rw [if_neg eg] at hr2
       refine ⟨(E6 _ _ hr2).1.congr fun w t'=>?_,Qz (E6 _ _ hr2).2 (by omega)⟩
       have ng:¬ ((g2:Nat):Int)=h:=by omega
       constructor
       ·rintro (z | ⟨_,z2,_⟩)
        ·exact .inl z
        ·exact absurd z2 ng
       ·rintro (z | ⟨_,z2,_⟩)
        ·exact .inl z
        ·exact absurd z2 ng
     ·have hth:t=h:=by simpa using c
      refine ⟨⟨_,rfl⟩,s6,rs,R6,hl6',fun g2 r2 hr2=>⟨(E6 _ _ hr2).1.congr fun w t'=>?_,Qz (E6 _ _ hr2).2 (by omega)⟩⟩
      rw [etake]
      constructor
      ·rintro (z | ⟨z1,z2,z3,z4⟩)
       ·exact .inl z
       ·exact .inr ⟨z1,z2,Jl _ z3,z4⟩
      ·rintro (z | ⟨z1,z2,z3,z4⟩)
       ·exact .inl z
       ·rcases Jk.mp z3 with z3 | z3
        ·exact .inr ⟨z1,z2,z3,z4⟩
        ·exact absurd ((Qu.mp z3).trans hth) z4
    ·rintro σ H6 ⟨⟨v6,rfl⟩,s6,rs,R6,hl6',E6⟩
     refine ⟨⟨_,_,_,_,rfl⟩,s6,rs,R6,hl6',fun g2 r2 hr2=>⟨(E6 _ _ hr2).1.congr fun w t'=>?_,Qz (E6 _ _ hr2).2 (by rw [Qb]; omega)⟩⟩
     rw [Qb,Js]
     constructor
     ·rintro (⟨z1,z2⟩ | ⟨z1,z2,z3,z4⟩)
      ·exact ⟨by omega,z2⟩
      ·subst z1
       exact ⟨by omega,by rw [hh,z2],l,hl,z3,by rw [z2]; exact z4⟩
     ·rintro ⟨z1,z2⟩
      by_cases hw:w < i
      ·exact .inl ⟨hw,z2⟩
      ·have ew:w=i:=by omega
       subst ew
       obtain ⟨z3,l',z4,z5,z6⟩:=z2
       rw [hh] at z3
       rw [hl] at z4
       cases z4
       have ez:h=g2:=Option.some.inj z3
       exact .inr ⟨rfl,ez.symm,z5,by rw [ez]; exact z6⟩
   ·rintro σ H4 ⟨⟨v3,v4,v5,v6,rfl⟩,s4,rs,R4,hl4,E4⟩
    refine ⟨_,rfl,k rp H4 qs rs s4 hrp0 (fun q hq=>(hqs q hq).1) R4 hl4 fun g r hr=>⟨(E4 g r hr).1.congr fun w t=>⟨fun z=>z.2,fun z=>⟨?_,z⟩⟩,Qz (E4 g r hr).2 (by rw [Qb]; omega)⟩⟩
    rw [Qb]
    exact (Qd.mp z.1).1
end
def Tp (H H':Hp):Prop:=∀ p xs,H p=some (.tup xs)->H' p=some (.tup xs)
theorem Tp.of {H H':Hp} (s:aE H H'):Tp H H':=fun _ _ h=>s _ _ h
theorem Tp.upd {H:Hp} {a:Addr} {u:HO} (h:∀ xs,H a≠some (.tup xs)):Tp H (upd H a u):=fun p xs e=>by
 have ne:p≠a:=fun z=>h xs (by rw [<- z]; exact e)
 rw [aI ne]; exact e
theorem vI {fs:List (Key×V)} {os:List Int} (h:fs.map (·.1)=os.map Sum.inl) (t:Int):(dP fs (.inl t)).isSome=decide (t∈os):=by
 rw [<- gZ]
 have:(fs.any fun kv=>decide (kv.1=Sum.inl t))=((fs.map (·.1)).any fun k=>decide (k=Sum.inl t)):=by rw [Wy]; rfl
 rw [this,h,Wy,Xc]
 simp
structure Tree (ws:List (List Int)) (hs:List Int) (n first:Int) (H:Hp) (fs:List (Key×V)) (os:List Int):Prop where
 keys:fs.map (·.1)=os.map Sum.inl
 nd:os.Nodup
 rng:∀ o∈os,0<=o/\o < n
 head:os[0]?=some first
 v0:dP fs (.inl first)=some .non
 par:∀ (j:Nat) (t:Int),0 < j->os[j]?=some t->∃ (p:Addr) (w:Nat) (g:Int) (i:Nat),dP fs (.inl t)=some (.ref p)/\H p=some (.tup [.int (w:Nat),.int g,.int t])/\dQ ws hs g w t/\i < j/\os[i]?=some g
section
variable {ws:List (List Int)} {hs:List Int} {n first:Int} {H H':Hp} {fs:List (Key×V)} {os:List Int}
theorem Tree.tp (T:Tree ws hs n first H fs os) (e:Tp H H'):Tree ws hs n first H' fs os :=
 ⟨T.keys,T.nd,T.rng,T.head,T.v0,fun j t h0 h1=>let ⟨p,w,g,i,a,b,c⟩:=T.par j t h0 h1; ⟨p,w,g,i,a,e _ _ b,c⟩⟩
theorem Tree.len (T:Tree ws hs n first H fs os):os.length<=n.toNat:=lE _ _ T.nd fun x hx=>by have:=T.rng x hx; omega
theorem Tree.flen (T:Tree ws hs n first H fs os):fs.length=os.length:=by
 have:=congrArg Wj T.keys
 rwa [Qb,Qb] at this
theorem Tree.one (h0:0<=first) (h1:first < n):Tree ws hs n first H [(.inl first,.non)] [first] :=
 ⟨rfl,by simp,fun o ho=>by rw [Qu.mp ho]; exact ⟨h0,h1⟩,rfl,eF rfl,fun j t h2 h3=>by
  cases j with
  | zero=>omega
  | succ j=>simp at h3⟩
theorem Tree.grow (T:Tree ws hs n first H fs os) {p:Addr} {w:Nat} {g t:Int} {i:Nat} (hp:H p=some (.tup [.int (w:Nat),.int g,.int t])) (e:dQ ws hs g w t) (hi:os[i]?=some g) (ht:t∉os) (r0:0<=t) (r1:t < n) :
  Tree ws hs n first H (fs++[(.inl t,.ref p)]) (os++[t]):=by
 have hv:dP fs (.inl t)=none:=by
  have:=vI T.keys t
  rw [decide_eq_false ht] at this
  cases q:dP fs (.inl t) with
  | none=>rfl
  | some v=>rw [q] at this; cases this
 have hlt:i < os.length:=(Qd.mp hi).1
 have val:∀ j:Key,dP (fs++[(.inl t,.ref p)]) j=if j=.inl t then some (.ref p) else dP fs j:=fun j=>nT _ _ _ _ hv
 have hf:first∈os:=Qe T.head
 refine ⟨by rw [Qx,Qx,T.keys]; rfl,?_,fun o ho=>?_,?_,?_,fun j t' h0 h1=>?_⟩
 ·rw [Zw]
  exact ⟨T.nd,by simp,fun x hx y hy z=>ht (by rw [<- Qu.mp hy,<- z]; exact hx)⟩
 ·rcases Jk.mp ho with h | h
  ·exact T.rng o h
  ·rw [Qu.mp h]; exact ⟨r0,r1⟩
 ·rw [Qs (by omega)]; exact T.head
 · rw [val, if_neg (fun z => ht (by have : first = t := by simpa using z
                                    rw [<- this]; exact hf))]
   exact T.v0
 ·by_cases hj:j < os.length
  ·rw [Qs hj] at h1
   obtain ⟨p',w',g',i',a,b,c,d,e'⟩:=T.par j t' h0 h1
   have ne : (Sum.inl t' : Key) ≠ Sum.inl t := fun z => ht (by have : t' = t := by simpa using z
                                                               rw [<- this]; exact Qe h1)
   exact ⟨p',w',g',i',by rw [val,if_neg ne]; exact a,b,c,d,by rw [Qs (by omega)]; exact e'⟩
  ·have ej:j=os.length:=by
    have:=(Qd.mp h1).1
    rw [Qk] at this
    simp at this
    omega
   subst ej
   rw [Qw (Qh _),Xf] at h1
   have et:t'=t:=by simpa using h1.symm
   subst et
   exact ⟨p,w,g,i,by rw [val,if_pos rfl],hp,e,hlt,by rw [Qs hlt]; exact hi⟩
theorem Tree.rl (T:Tree ws hs n first H fs os):∀ (j:Nat) (t:Int),os[j]?=some t->RL ws hs j first t:=by
 intro j
 induction j using Nat.strongRecOn with
 | ind j ih =>
  intro t ht
  by_cases h0:j=0
  ·subst h0
   rw [T.head] at ht
   exact Option.some.inj ht
  ·obtain ⟨p,w,g,i,_,_,e,hi,hg⟩:=T.par j t (by omega) ht
   exact ((ih i hi g hg).snoc e).mono (by omega)
end
section
variable {P:Program} {w:World} {K:PySem.W.Frag} {mg:Str->Option Value} {base:Heap}
def zF (ws:List (List Int)) (hs os:List Int):Prop:=∀ g∈os,∀ w t,dQ ws hs g w t->t∈os
def lF (K:PySem.W.Frag):Sp:=fun vs H Q _=>∃ rp first qs rs n ws hs,vs = [.ref rp,.int first]/\Rows H rp qs rs/\rs.length=n.toNat/\oS (dQ ws hs) rs 100/\(∀ g w t,dQ ws hs g w t->0<=t/\t < n)/\n<=7/\0<=first/\first < n /\
 ∀ fd H' fs os,aE H H'->H fd=none->H' fd=some (.dK fs)->Tree ws hs n first H' fs os->zF ws hs os->Q (.ref fd) H'
theorem jE:FnScope ["rows", "first", "found", "waiting", "giver", "taker"] ["rows", "first"] (aF iW):=⟨rfl,rfl,rfl,by decide +kernel,rfl,by decide +kernel,by decide +kernel⟩
theorem lV {f:Addr} {fd:FuncData} (G:Fn K mg "reached" iW ["rows", "first"] f fd) (B:Bl mg):FnOk P w K mg base CX0 1 f fd ["rows", "first"] (lF K):=by
 refine G.fn.ok jE (fun vs H Q E h=>?_) (fun cdv A outer s H vs Q E hr h=>?_)
 ·obtain ⟨rp,first,qs,rs,n,ws,hs,rfl,_⟩:=h
  rfl
 ·obtain ⟨rp,first,qs,rs,n,ws,hs,rfl,R,hlr,ER,hedge,hn6,hf0,hf1,k⟩:=h
  refine ⟨_,(aD (aY (i:=2) jE.nd rfl (Or.inl rfl) (aCf (pv 1) aBG))
   (aD (aY (i:=3) jE.nd rfl (Or.inl rfl) (eM (aA (pv 1) aB)))
   (aD (pJ PassesOwn.never (aBN (pv 3) (fun _=>rfl))
    (aD (aY (i:=4) jE.nd rfl (Or.inl rfl) (mG PySem.F.plainAttrs_list PySem.F.slot_list_pop PySem.F.type_list_pop aBS (pv 3) (aA aJ aB)))
    (aG (aDy (dZ PassesOwn.never rfl (aAh (aU eA (pv 0) (pv 4) (fun _ _=>rfl))) (aH (i:=5) jE.nd rfl (Or.inl rfl))
     (aG (bT (aBI (aBb (pO hr) (pv 5) (pv 2)) (by with_unfolding_all rfl))
      (aD (uP (pO hr) (pv 2) (pv 5) (gN (aA (uO (pO hr) (aU eA (pv 0) (pv 4) (fun _ _=>rfl)) (pv 5) (fun _ _=>rfl)) (aA (pv 4) (aA (pv 5) aB)))) rfl)
      (aG (cQ (mG PySem.F.plainAttrs_list PySem.F.slot_list_append PySem.F.type_list_append gO (pv 3) (aA (pv 5) aB)))))
      aW)))))))
   (aG (aO (pv 2)))))),?_⟩
  intro fd0 hfd0
  refine ⟨_,rfl,.inl first,rfl,aC,?_⟩
  rw [zR]
  have s1:=aE.new (o:=.dK [(.inl first,.non)]) hfd0
  have e1:upd H fd0 (.dK [(.inl first,.non)]) fd0=some (.dK [(.inl first,.non)]):=aC
  generalize upd H fd0 (.dK [(.inl first,.non)])=H1 at s1 e1 ⊢
  refine ⟨_,rfl,sz1 _,fun wt hwt=>?_⟩
  have hwt0:H wt=none:=s1.free hwt
  have nfw:fd0≠wt:=fun z=>by rw [z,hwt] at e1; cases e1
  have s2:=s1.trans (aE.new (o:=.lst [.int first]) hwt)
  have e2:=(aE.new (o:=.lst [.int first]) hwt) _ _ e1
  have w2:upd H1 wt (.lst [.int first]) wt=some (.lst [.int first]):=aC
  generalize upd H1 wt (.lst [.int first])=H2 at s2 e2 w2 ⊢
  -- the while
  refine ⟨fun m σ H3=>∃ (v4 v5:Option V) (mm:Nat) (fs:List (Key×V)) (os:List Int),σ = [some (.ref rp),some (.int first),some (.ref fd0),some (.ref wt),v4,v5]/\m=n.toNat - mm/\aE H H3/\H3 fd0=some (.dK fs)/\H3 wt=some (.lst ((os.drop mm).map V.int))/\Tree ws hs n first H3 fs os/\mm<=os.length /\
    ∀ (i:Nat) (g:Int),i < mm->os[i]?=some g->∀ w t,dQ ws hs g w t->t∈os,
   ⟨n.toNat - 0,none,none,0,_,[first],rfl,rfl,s2,e2,w2,Tree.one hf0 hf1,Jo _,fun i g hi=>absurd hi (Yk _)⟩,?_⟩
  rintro m σ H3 ⟨v4,v5,mm,fs,os,rfl,rfl,s3,e3,w3,T3,hmm,pr3⟩
  refine ⟨_,rfl,!((os.drop mm).map V.int).isEmpty,.inl ⟨_,SqL.of w3,rfl⟩,?_⟩
  by_cases hend:mm < os.length
  ·-- a turn
   have hne:(os.drop mm)≠[]:=by
    intro z
    have:=congrArg Wj z
    rw [Xd] at this
    simp at this
    omega
   have hb:(!((os.drop mm).map V.int).isEmpty)=true:=by
    cases q:os.drop mm with
    | nil=>exact absurd q hne
    | cons _ _=>rfl
   rw [hb]
   refine gQ ?_
   have hdrop:os.drop mm=os[mm]::os.drop (mm+1):=Ys hend
   have hgm:os[mm]?=some (os[mm]):=Qc hend
   generalize os[mm]=g at hdrop hgm
   obtain ⟨hg0,hg1⟩:=T3.rng g (Qe hgm)
   have holen:=T3.len
   refine ⟨fun σ' H'=>∃ m',m' < n.toNat - mm/\∃ (v4 v5:Option V) (mm:Nat) (fs:List (Key×V)) (os:List Int),σ' = [some (.ref rp),some (.int first),some (.ref fd0),some (.ref wt),v4,v5]/\m'=n.toNat - mm/\aE H H'/\H' fd0=some (.dK fs)/\H' wt=some (.lst ((os.drop mm).map V.int))/\Tree ws hs n first H' fs os/\mm<=os.length /\
    ∀ (i:Nat) (g:Int),i < mm->os[i]?=some g->∀ w t,dQ ws hs g w t->t∈os,fun σ' H' z=>z,?_⟩
   refine ⟨_,rfl,.inl ⟨rfl,_,SqL.of w3⟩,?_⟩
   have hx0:((os.drop mm).map V.int)[0]?=some (.int g):=by rw [hdrop]; rfl
   have hxl:0 < ((os.drop mm).map V.int).length:=(Qd.mp hx0).1
   refine ⟨wt,_,0,0,.int g,rfl,rfl,w3,by decide,by decide,mQ (i:=0) (by decide) hxl,hx0,?_⟩
   have her:((os.drop mm).map V.int).eraseIdx 0=(os.drop (mm+1)).map V.int:=by rw [hdrop]; rfl
   rw [her]
   have s4:=s3.wr (u:=.lst ((os.drop (mm+1)).map V.int)) hwt0
   have e4:upd H3 wt (.lst ((os.drop (mm+1)).map V.int)) fd0=some (.dK fs):=by rw [aI nfw]; exact e3
   have w4:upd H3 wt (.lst ((os.drop (mm+1)).map V.int)) wt=some (.lst ((os.drop (mm+1)).map V.int)):=aC
   have T4:=T3.tp (Tp.upd (a:=wt) (u:=.lst ((os.drop (mm+1)).map V.int)) fun xs z=>by rw [w3] at z; cases z)
   generalize upd H3 wt (.lst ((os.drop (mm+1)).map V.int))=H4 at s4 e4 w4 T4 ⊢
   -- the row
   have R4:=R.same s4
   have hgl:g.toNat < qs.length:=by rw [R.len,hlr]; omega
   have hcast:((g.toNat:Nat):Int)=g:=by omega
   obtain ⟨qg,hqg⟩:∃ q,qs[g.toNat]?=some q:=⟨_,Qc hgl⟩
   obtain ⟨r,hr⟩:∃ r,rs[g.toNat]?=some r:=⟨_,Qc (by rw [hlr]; omega)⟩
   have hat:atI (qs.map V.ref) g=some (.ref qg):=by
    have:=cI (xs:=qs.map V.ref) (j:=g.toNat) (v:=.ref qg) (by rw [Qg,hqg]; rfl)
    rwa [hcast] at this
   have hrow:=R.row _ _ _ hqg hr
   have hrow4:=s4 _ _ hrow
   obtain ⟨hRE,hRl⟩:=ER _ _ hr
   rw [hcast] at hRE
   have nqf:qg≠fd0:=fun z=>by rw [z,hfd0] at hrow; cases hrow
   have nqw:qg≠wt:=fun z=>by rw [z,hwt0] at hrow; cases hrow
   have nqr:rp≠qg:=fun z=>by have:=R.lst; rw [z,hrow] at this; cases this
   refine ⟨_,rfl,_,rfl,rp,_,g,_,rfl,rfl,SqL.of R4.lst,hat,qg,r,rfl,hrow4,fun o nf=>?_⟩
   have z5:upd H4 qg (.frz o (.dK r)) qg=some (.frz o (.dK r)):=aC
   have b5:But qg H (upd H4 qg (.frz o (.dK r))):=fun b u nb hb=>by rw [aI nb]; exact s4 _ _ hb
   have e5:upd H4 qg (.frz o (.dK r)) fd0=some (.dK fs):=by rw [aI (Ne.symm nqf)]; exact e4
   have w5:upd H4 qg (.frz o (.dK r)) wt=some (.lst ((os.drop (mm+1)).map V.int)):=by rw [aI (Ne.symm nqw)]; exact w4
   have T5:=T4.tp (Tp.upd (a:=qg) (u:=.frz o (.dK r)) fun xs z=>by rw [hrow4] at z; cases z)
   generalize upd H4 qg (.frz o (.dK r))=H5 at z5 b5 e5 w5 T5 ⊢
   refine aCe (a:=qg) (o:=o) (kvs:=r) (fun j σ H6=>∃ (v5:Option V) (fs:List (Key×V)) (os:List Int),σ = [some (.ref rp),some (.int first),some (.ref fd0),some (.ref wt),some (.int g),v5]/\H6 qg=some (.frz o (.dK r))/\But qg H H6/\H6 fd0=some (.dK fs)/\H6 wt=some (.lst ((os.drop (mm+1)).map V.int))/\Tree ws hs n first H6 fs os/\mm+1<=os.length/\os[mm]?=some g /\
     (∀ (i:Nat) (g:Int),i < mm->os[i]?=some g->∀ w t,dQ ws hs g w t->t∈os)/\∀ (i:Nat) k v t,i < j->r[i]?=some (k,v)->k=.inl t->t∈os)
    ⟨v5,fs,os,rfl,z5,b5,e5,w5,T5,hend,hgm,pr3,fun i k v t hi=>absurd hi (Yk _)⟩ (fun j σ H6 _ ⟨_,_,_,_,h,_⟩=>h) ?_ ?_
   ·rintro j ⟨key,val⟩ σ H6 hj ⟨v5,fs,os,rfl,z6,b6,e6,w6,T6,hl6,hg6,pr6,dn6⟩
    -- the key is a hand,its value a work
    obtain ⟨val',hval⟩:∃ v,dP r key=some v:=by
     have:(dP r key).isSome=true:=by
      rw [<- gZ,Zk]
      exact ⟨_,Qe hj,by simp⟩
     cases q:dP r key with
     | none=>rw [q] at this; cases this
     | some v=>exact ⟨v,rfl⟩
    obtain ⟨wk,t,rfl,rfl,hE⟩:=hRE.1 _ _ hval
    obtain ⟨ht0,ht1⟩:=hedge _ _ _ hE
    dsimp only [kV]
    have dn:∀ (os':List Int),t∈os'->(∀ x∈os,x∈os')->∀ (i:Nat) k v t',i < j+1->r[i]?=some (k,v)->k=.inl t'->t'∈os':=fun os' h1 h2 i k v t' hi hk he=>by
     by_cases hij:i < j
     ·exact h2 _ (dn6 i k v t' hij hk he)
     ·have:i=j:=by omega
      subst this
      rw [hj] at hk
      cases hk
      have:t=t':=by simpa using he
      rw [<- this]; exact h1
    refine ⟨_,rfl,_,rfl,fd0,_,rfl,sK.k (k:=.inl t) e6,_,rfl,?_⟩
    rw [vI T6.keys]
    by_cases htm:t∈os
    ·rw [decide_eq_true htm]
     refine eE ?_
     exact ⟨_,fs,os,rfl,z6,b6,e6,w6,T6,hl6,hg6,pr6,dn os htm fun _ h=>h⟩
    ·rw [decide_eq_false htm]
     refine gQ ?_
     have hR6:H6 rp=some (.lst (qs.map V.ref)):=b6 _ _ nqr R.lst
     refine ⟨_,rfl,_,rfl,rp,_,g,_,rfl,rfl,SqL.of hR6,hat,_,rfl,qg,.int (wk:Nat),rfl,.inl ⟨r,.inl t,.inr ⟨o,z6⟩,rfl,hval.symm⟩,_,rfl,_,rfl,cV (show 3<=1000 by decide),fun p hp=>?_⟩
     have sp:=aE.new (o:=.tup [.int (wk:Nat),.int g,.int t]) hp
     have ep:upd H6 p (.tup [.int (wk:Nat),.int g,.int t]) p=_:=aC
     have b7:But qg H (upd H6 p (.tup [.int (wk:Nat),.int g,.int t])):=b6.trans (But.of sp)
     have z7:=sp _ _ z6
     have e7:=sp _ _ e6
     have w7:=sp _ _ w6
     have T7:=T6.tp (Tp.of sp)
     generalize upd H6 p (.tup [.int (wk:Nat),.int g,.int t])=H7 at sp ep b7 z7 e7 w7 T7 ⊢
     have hv:dP fs (.inl t)=none:=by
      have:=vI T7.keys t
      rw [decide_eq_false htm] at this
      cases q:dP fs (.inl t) with
      | none=>rfl
      | some v=>rw [q] at this; cases this
     have T7l:=T7.len
     have T7f:=T7.flen
     have T8:=T7.grow ep hE hg6 htm ht0 ht1
     have hput:hV fs (.inl t) (.ref p)=fs++[(.inl t,.ref p)]:=aCc _ hv
     refine ⟨_,rfl,_,rfl,fd0,_,rfl,uM.k (k:=.inl t) e7 (by rw [sizeLine_eq]; omega),?_⟩
     rw [hput]
     have b8:But qg H (upd H7 fd0 (.dK (fs++[(.inl t,.ref p)]))):=fun b u nb hb=>by
      rw [aI (fun z=>by rw [z,hfd0] at hb; cases hb)]
      exact b7 b u nb hb
     have z8:upd H7 fd0 (.dK (fs++[(.inl t,.ref p)])) qg=some (.frz o (.dK r)):=by rw [aI nqf]; exact z7
     have e8:upd H7 fd0 (.dK (fs++[(.inl t,.ref p)])) fd0=_:=aC
     have w8:upd H7 fd0 (.dK (fs++[(.inl t,.ref p)])) wt=some (.lst ((os.drop (mm+1)).map V.int)):=by rw [aI (Ne.symm nfw)]; exact w7
     have T8':=T8.tp (Tp.upd (a:=fd0) (u:=.dK (fs++[(.inl t,.ref p)])) fun xs z=>by rw [e7] at z; cases z)
     generalize upd H7 fd0 (.dK (fs++[(.inl t,.ref p)]))=H8 at b8 z8 e8 w8 T8' ⊢
     refine ⟨_,rfl,.inl ⟨rfl,_,SqL.of w8⟩,_,rfl,wt,_,.int t,rfl,rfl,w8,by rw [Qb,Xd,sizeLine_eq]; omega,?_⟩
     have hdr:(os.drop (mm+1)).map V.int++[V.int t]=((os++[t]).drop (mm+1)).map V.int:=by
      rw [List.drop_append_of_le_length hl6,Qx]; rfl
     rw [hdr]
     refine ⟨_,_,os++[t],rfl,by rw [aI nqw]; exact z8,fun b u nb hb=>?_,by rw [aI nfw]; exact e8,aC,T8'.tp (Tp.upd fun xs z=>by rw [w8] at z; cases z),by rw [Qk]; omega,by rw [Qs (by omega)]; exact hg6,fun i g' hi hg' w t' e'=>?_,dn _ (by simp) fun x hx=>Jl _ hx⟩
     ·rw [aI (fun z=>by rw [z,hwt0] at hb; cases hb)]
      exact b8 b u nb hb
     ·rw [Qs (by omega)] at hg'
      exact Jl _ (pr6 i g' hi hg' w t' e')
   ·rintro σ H6 ⟨v5,fs,os,rfl,z6,b6,e6,w6,T6,hl6,hg6,pr6,dn6⟩
    refine ⟨qg,o,r,z6,nf,?_⟩
    have hole:=T6.len
    have s7:aE H (upd H6 qg (.dK r)):=fun b u hb=>by
     by_cases hbq:b=qg
     ·rw [hbq] at hb ⊢
      rw [aC,<- hrow]; exact hb
     ·rw [aI hbq]; exact b6 b u hbq hb
    refine ⟨n.toNat - (mm+1),by omega,_,_,mm+1,fs,os,rfl,rfl,s7,by rw [aI (Ne.symm nqf)]; exact e6,by rw [aI (Ne.symm nqw)]; exact w6,T6.tp (Tp.upd fun xs z=>by rw [z6] at z; cases z),hl6,fun i g' hi hg' w t e=>?_⟩
    by_cases him:i < mm
    ·exact pr6 i g' him hg' w t e
    ·have:i=mm:=by omega
     subst this
     rw [hg6] at hg'
     cases hg'
     have hs:=hRE.2 w t e
     rw [<- gZ,Zk] at hs
     obtain ⟨⟨k,v⟩,hk,he⟩:=hs
     obtain ⟨j,hj⟩:=Qy.mp hk
     exact dn6 j k v t (Qd.mp hj).1 hj (by simpa using he)
  ·have hlen:mm=os.length:=by omega
   have hb:(!((os.drop mm).map V.int).isEmpty)=false:=by rw [hlen,List.drop_length]; rfl
   rw [hb]
   refine eE ?_
   refine ⟨_,rfl,k fd0 H3 fs os s3 hfd0 e3 T3 fun g hg w t e=>?_⟩
   obtain ⟨i,hi⟩:=Qy.mp hg
   exact pr3 i g (by have:=(Qd.mp hi).1; omega) hi w t e
structure StepsAt (H:Hp) (ps:List Addr) (ss:List (Nat×Int×Int)):Prop where
 len:ps.length=ss.length
 at_:∀ (i:Nat) p s,ps[i]?=some p->ss[i]?=some s->H p=some (.tup [.int (s.1:Nat),.int s.2.1,.int s.2.2])
theorem StepsAt.nil {H:Hp}:StepsAt H [] []:=⟨rfl,fun i p s h=>by simp at h⟩
theorem StepsAt.cons {H:Hp} {ps:List Addr} {ss:List (Nat×Int×Int)} (h:StepsAt H ps ss) {p:Addr} {w:Nat} {g t:Int} (hp:H p=some (.tup [.int (w:Nat),.int g,.int t])):StepsAt H (p::ps) ((w,g,t)::ss):=by
 refine ⟨by rw [Jv,Jv,h.len],fun i p' s h1 h2=>?_⟩
 cases i with
 | zero =>
  have e1:p=p':=by simpa using h1
  have e2:(w,g,t)=s:=by simpa using h2
  subst e1 e2
  exact hp
 | succ i=>exact h.at_ i p' s (by simpa using h1) (by simpa using h2)
theorem StepsAt.tp {H H':Hp} {ps:List Addr} {ss:List (Nat×Int×Int)} (h:StepsAt H ps ss) (e:Tp H H'):StepsAt H' ps ss:=⟨h.len,fun i p s a b=>e _ _ (h.at_ i p s a b)⟩
def vJ (K:PySem.W.Frag):Sp:=fun vs H Q _=>∃ fdp last fs os first n ws hs jl,vs = [.ref fdp,.int last]/\H fdp=some (.dK fs)/\Tree ws hs n first H fs os/\n<=7/\os[jl]?=some last /\
 ∀ p H' ps ss,aE H H'->H p=none->H' p=some (.lst (ps.map V.ref))->StepsAt H' ps ss->cS ws hs first ss last->(first::ss.map (·.2.2)).Nodup->(∀ s∈ss,s.2.2∈os)->(0 < jl->ss≠[])->Q (.ref p) H'
theorem pF:FnScope ["found", "last", "some", "step"] ["found", "last"] (aF qL):=⟨rfl,rfl,rfl,by decide +kernel,rfl,by decide +kernel,by decide +kernel⟩
theorem xB {f:Addr} {fd:FuncData} (G:Fn K mg "way_to" qL ["found", "last"] f fd) (B:Bl mg):FnOk P w K mg base CX0 1 f fd ["found", "last"] (vJ K):=by
 refine G.fn.ok pF (fun vs H Q E h=>?_) (fun cdv A outer s H vs Q E hr h=>?_)
 ·obtain ⟨fdp,last,fs,os,first,n,ws,hs,jl,rfl,_⟩:=h
  rfl
 ·obtain ⟨fdp,last,fs,os,first,n,ws,hs,jl,rfl,hfd,T,hn6,hjl,k⟩:=h
  refine ⟨_,(aD (aY (i:=2) pF.nd rfl (Or.inl rfl) (eM aB))
   (aD (aY (i:=3) pF.nd rfl (Or.inl rfl) (uO (pO hr) (pv 0) (pv 1) (fun _ _=>rfl)))
   (aD (pJ PassesOwn.never (aBI (aDc (pv 3)))
    (aD (cQ (mG PySem.F.plainAttrs_list PySem.F.slot_list_append PySem.F.type_list_append gO (pv 2) (aA (pv 3) aB)))
    (aG (aY (i:=3) pF.nd rfl (Or.inl rfl) (uO (pO hr) (pv 0) (aU aZ (pv 3) aJ (fun _ _=>rfl)) (fun _ _=>rfl))))))
   (aG (aO (aDt (pv 2) (sU nO aJ))))))),?_⟩
  have Tl:=T.len
  have hnsz:n.toNat < sizeLine:=by rw [sizeLine_eq]; omega
  refine ⟨cV (show 0<=1000 by decide),fun sm hsm=>?_⟩
  have s1:=aE.new (o:=.lst []) hsm
  have e1:upd H sm (.lst []) sm=some (.lst []):=aC
  generalize upd H sm (.lst [])=H1 at s1 e1 ⊢
  -- what stands at a found hand
  have vals:∀ (j:Nat) (t:Int),os[j]?=some t->∃ v,dP fs (.inl t)=some v/\((j=0/\v=.non)∨∃ p w g i,0 < j/\v=.ref p/\H p=some (.tup [.int (w:Nat),.int g,.int t])/\dQ ws hs g w t/\i < j/\os[i]?=some g):=fun j t ht=>by
   by_cases hj:j=0
   ·subst hj
    rw [T.head] at ht
    cases ht
    exact ⟨_,T.v0,.inl ⟨rfl,rfl⟩⟩
   ·obtain ⟨p,w,g,i,a,b,c,d,e⟩:=T.par j t (by omega) ht
    exact ⟨_,a,.inr ⟨p,w,g,i,by omega,rfl,b,c,d,e⟩⟩
  obtain ⟨v0,hv0,_⟩:=vals jl last hjl
  refine ⟨_,rfl,_,rfl,fdp,v0,rfl,.inl ⟨fs,.inl last,.inl (s1 _ _ hfd),rfl,hv0.symm⟩,?_⟩
  refine ⟨fun m σ H2=>∃ (j:Nat) (t:Int) (v:V) (rps:List Addr) (ss:List (Nat×Int×Int)),m=j/\σ = [some (.ref fdp),some (.int last),some (.ref sm),some v]/\os[j]?=some t/\dP fs (.inl t)=some v/\aE H H2/\H2 sm=some (.lst (rps.map V.ref))/\StepsAt H2 rps.reverse ss/\cS ws hs t ss last/\(t::ss.map (·.2.2)).Nodup /\
    (∀ x∈ss.map (·.2.2),∃ i:Nat,j < i/\os[i]?=some x)/\rps.length+j<=jl/\(j < jl->ss≠[]),
   ⟨jl,jl,last,v0,[],[],rfl,rfl,hjl,hv0,s1,e1,StepsAt.nil,rfl,by simp,fun x h=>by simp at h,by simp,fun h=>by omega⟩,?_⟩
  rintro j σ H2 ⟨_,t,v,rps,ss,rfl,rfl,hj,hv,s2,e2,S2,P2,N2,I2,L2',L3⟩
  have hjo:jl < os.length:=(Qd.mp hjl).1
  obtain ⟨v',hv',cs⟩:=vals j t hj
  rw [hv] at hv'
  cases hv'
  rcases cs with ⟨rfl,rfl⟩ | ⟨p,w,g,i,hj0,rfl,hp,hE,hij,hg⟩
  ·refine ⟨_,rfl,_,rfl,?_⟩
   refine eE ?_
   rw [T.head] at hj
   cases hj
   refine ⟨_,rfl,_,rfl,rfl,sm,_,rfl,SqL.of e2,fun p hp=>?_⟩
   have s3:=aE.new (o:=.lst (rps.map V.ref).reverse) hp
   refine k p _ rps.reverse ss (s2.trans s3) (s2.free hp) (by rw [aC,Yb]) (S2.tp (Tp.of s3)) P2 N2 (fun x hx=>?_) L3
   obtain ⟨i,_,hi⟩:=I2 _ (Jm.mpr ⟨x,hx,rfl⟩)
   exact Qe hi
  ·refine ⟨_,rfl,_,rfl,?_⟩
   refine gQ ?_
   obtain ⟨vg,hvg,_⟩:=vals i g hg
   refine ⟨fun σ' H'=>∃ m',m' < j/\∃ (j:Nat) (t:Int) (v:V) (rps:List Addr) (ss:List (Nat×Int×Int)),m'=j/\σ' = [some (.ref fdp),some (.int last),some (.ref sm),some v]/\os[j]?=some t/\dP fs (.inl t)=some v/\aE H H'/\H' sm=some (.lst (rps.map V.ref))/\StepsAt H' rps.reverse ss/\cS ws hs t ss last/\(t::ss.map (·.2.2)).Nodup /\
    (∀ x∈ss.map (·.2.2),∃ i:Nat,j < i/\os[i]?=some x)/\rps.length+j<=jl/\(j < jl->ss≠[]),fun σ' H' z=>z,?_⟩
   have hsz:(rps.map V.ref).length < sizeLine:=by
    rw [Qb]
    exact Zs (Qz (Qz (Jx _ _) L2') (Qz (Zn hjo) Tl)) hnsz
   refine ⟨_,rfl,.inl ⟨rfl,_,SqL.of e2⟩,_,rfl,sm,_,.ref p,rfl,rfl,e2,hsz,?_⟩
   have s3:aE H (upd H2 sm (.lst (rps.map V.ref++[.ref p]))):=s2.wr hsm
   have e3:upd H2 sm (.lst (rps.map V.ref++[.ref p])) sm=_:=aC
   have S3:=S2.tp (Tp.upd (a:=sm) (u:=.lst (rps.map V.ref++[.ref p])) fun xs z=>by rw [e2] at z; cases z)
   generalize upd H2 sm (.lst (rps.map V.ref++[.ref p]))=H3 at s3 e3 S3 ⊢
   have hp3:=s3 _ _ hp
   refine ⟨_,rfl,_,rfl,p,_,1,.int g,rfl,rfl,SqT.of hp3,rfl,fdp,vg,rfl,.inl ⟨fs,.inl g,.inl (s3 _ _ hfd),rfl,hvg.symm⟩,?_⟩
   refine ⟨i,hij,i,g,vg,rps++[p],(w,g,t)::ss,rfl,rfl,hg,hvg,s3,by rw [Qx]; exact e3,?_,⟨rfl,hE,P2⟩,?_,?_,?_,fun _=>by simp⟩
   ·rw [Wm]
    exact S3.cons hp3
   ·show (g::t::ss.map (·.2.2)).Nodup
    rw [Xq]
    refine ⟨fun hm=>?_,N2⟩
    have inj:∀ i',i < i'->os[i']?=some g->False:=fun i' h1 h2=>by
     have:=(List.getElem?_inj (Qd.mp hg).1 T.nd).mp (hg.trans h2.symm)
     omega
    rcases Qm.mp hm with e | hm
    ·exact inj j hij (by rw [e]; exact hj)
    ·obtain ⟨i',h1,h2⟩:=I2 g hm
     exact inj i' (by omega) h2
   ·intro x hx
    rcases Qm.mp (show x∈t::ss.map (·.2.2) from hx) with rfl | hx
    ·exact ⟨j,hij,hj⟩
    ·obtain ⟨i',h1,h2⟩:=I2 x hx
     exact ⟨i',by omega,h2⟩
   ·rw [Qk]
    show rps.length+1+i<=jl
    omega
def xC:Str:=("steps_to_least" : Str) ++ ".<locals>." ++ "<lambda>"
theorem gR {ws:List (List Int)} {hs able:List Int} {n g t:Int} {w:Nat} (hl:hs.length=ws.length):dQ (ws++[able]) (hs++[n]) g w t↔dQ ws hs g w t∨(w=hs.length/\g=n/\t∈able/\t≠n):=by
 unfold dQ
 rcases Nat.lt_trichotomy w hs.length with h | h | h
 ·rw [Qs h,Qs (by omega)]
  exact ⟨.inl,fun z=>z.elim id fun z=>by omega⟩
 ·subst h
  rw [Qw (Qh _),Xf,hl,Qw (Qh _),Xf,Zz (by omega:hs.length<=ws.length)]
  constructor
  ·rintro ⟨e,l,e2,h1,h2⟩
   have e:n=g:=by simpa using e
   have e2:able=l:=by simpa using e2
   subst e e2
   exact .inr ⟨rfl,rfl,h1,h2⟩
  ·rintro (⟨e,_⟩ | ⟨_,rfl,h1,h2⟩)
   ·cases e
   ·exact ⟨rfl,able,rfl,h1,h2⟩
 ·rw [Zz (by rw [Qk]; show hs.length+1<=w; omega),Zz (by omega:hs.length<=w)]
  constructor
  ·rintro ⟨e,_⟩; cases e
  ·rintro (⟨e,_⟩ | ⟨e,_⟩)
   ·cases e
   ·omega
def aAy (K:PySem.W.Frag) (Pt:Addr):Sp:=fun vs H Q _=>∃ (x:V) (dp ap mp:Addr) (n:Int) (ws:List (List Int)) (hs able ms:List Int),vs = [x,.ref dp,.ref ap,.ref mp]/\rJ K H x dp n ws hs/\SqT K H ap (able.map V.int)/\cP n (bO able)=true/\SqL K H mp (ms.map V.int)/\ms.length=n.toNat/\H Pt=some (.tab xC) /\
 ∀ p H' ps ss os last,aE H H'->H p=none->H' p=some (.lst (ps.map V.ref))->StepsAt H' ps ss->cS (ws++[able]) (hs++[n]) n ss last->(n::ss.map (·.2.2)).Nodup->ss≠[]->zF (ws++[able]) (hs++[n]) os->n∈os ->
  (∀ o∈os,o≠n->0<=o/\o < n/\ms.getD last.toNat 0<=ms.getD o.toNat 0)->last∈os->last≠n->(∀ s∈ss,s.2.2∈os)->Q (.ref p) H'
theorem pG:FnScope ["book", "deal", "able", "measures", "nobody", "found", "last"] ["book", "deal", "able", "measures"] (aF iX):=⟨rfl,rfl,rfl,by decide +kernel,rfl,by decide +kernel,by decide +kernel⟩
theorem aCP {f fHd fR fW' c Pt:Addr} {fd dHd dR dW':FuncData} (G:Fn K mg "steps_to_least" iX ["book", "deal", "able", "measures"] f fd) (hc:fd.code=.ref c) (Z:Lm K mg base c Pt) (B:Bl mg)
  (GH:Fn K mg "handing" gE ["book", "deal"] fHd dHd) (GR:Fn K mg "reached" iW ["rows", "first"] fR dR) (GW:Fn K mg "way_to" qL ["found", "last"] fW' dW'):FnOk P w K mg base CX0 2 f fd ["book", "deal", "able", "measures"] (aAy K Pt):=by
 have OH:FnOk P w K mg base CX0 1 fHd dHd ["book", "deal"] (rK K):=xA GH B
 have OR:FnOk P w K mg base CX0 1 fR dR ["rows", "first"] (lF K):=lV GR B
 have OW:FnOk P w K mg base CX0 1 fW' dW' ["found", "last"] (vJ K):=xB GW B
 refine G.fn.okC hc pG (fun vs H Q E h=>?_) (fun A outer s H vs Q E hr h=>?_)
 ·obtain ⟨x,dp,ap,mp,n,ws,hs,able,ms,rfl,_⟩:=h
  rfl
 ·obtain ⟨x,dp,ap,mp,n,ws,hs,able,ms,rfl,g,hap,hwk,hmp,hml,hT,k⟩:=h
  have r1:Room 1 _:=hr
  refine ⟨_,(aD (aY (i:=4) pG.nd rfl (Or.inr rfl) (aU aZ (pv 0) aJ (fun _ _=>rfl)))
   (aD (aY (i:=5) pG.nd rfl (Or.inl rfl) (aT GR OR r1 rfl (aA (cL aBT (aT GH OH r1 rfl (aA (pv 0) (aA (pv 1) aB)))
     (eM (aA (aCr (own:=["hand"]) (fr:=[1]) (frn:=["deal"]) (aV (aF iX) ["book", "deal", "able", "measures", "nobody", "found", "last"] rfl rfl (by decide +kernel)) rfl (eL (pv 2))
      (fun _ _ _ _=>aH (i:=0) (show (["hand", "deal"]:List Str).Nodup by decide +kernel) rfl (Or.inl rfl)) (fun _ _ _ _=>cA) (fun _ _ _ _=>pv 0) (fun _ _ _ _=>aK (iR (K:=K) rfl) rfl B.len cU (aA (pv 1) aB))) aB)))
     (aA (pv 4) aB))))
   (aD (aY (i:=6) pG.nd rfl (Or.inl rfl) (tI 3 rfl r1 rfl B.min Z rfl (q:=xC) rfl
     (wP (own:=["hand"]) (fr:=[4]) (frn:=["nobody"]) (aV (aF iX) ["book", "deal", "able", "measures", "nobody", "found", "last"] rfl rfl (by decide +kernel)) rfl (pv 5)
      (fun _ _ _ _=>aH (i:=0) (show (["hand", "nobody"]:List Str).Nodup by decide +kernel) rfl (Or.inl rfl)) (fun _ _ _ _=>yH (bB gW (pv 0) (pv 1) (bE _))) (fun _ _ _ _=>pv 0)) rfl rfl))
   (aG (aO (aT GW OW r1 rfl (aA (pv 5) (aA (pv 6) aB)))))))),?_⟩
  obtain ⟨hl12,hn1,hn6⟩:=g.len
  obtain ⟨a,b,ys,rfl,ha,hb2,hys⟩:=bS g.1
  obtain ⟨_,_,hw12,hws⟩:=bC g.2.1
  obtain ⟨hdl,hdm⟩:=bF g.2.2.2
  obtain ⟨able0,able1,able2⟩:=bL hwk
  have hab6:able.length<=6:=by have:=fM (by omega) able1 able2; omega
  have hedge:∀ g w t,dQ (ws++[able]) (hs++[n]) g w t->0<=t/\t < n+1:=fun g w t e=>by
   rcases (gR hdl).mp e with ⟨_,l,h1,h2,_⟩ | ⟨_,_,h2,_⟩
   ·have:=(bL (hws l (Qe h1))).2.1 t h2; omega
   ·have:=able1 t h2; omega
  refine ⟨_,rfl,a,_,0,.int n,rfl,rfl,ha,rfl,?_⟩
  refine ⟨_,rfl,_,rfl,.ref a,dp,n,ws,hs,rfl,g,fun rp H2 qs rs s2 hrp hqs R2 hlr ER=>?_⟩
  refine ⟨_,rfl,ap,rfl,⟨_,s2.seqT hap⟩,aBk (K:=K) (a:=ap) (xs:=able.map V.int) (fun σ=>∃ v,σ = [v,some (.ref dp)]) (fun i zs H3=>H3=H2/\zs.length<=i/\oA (fun w t=>w=hs.length/\t∈able.take i) zs) (cV (by rw [Qb]; omega)) ⟨_,rfl⟩ ⟨rfl,Qh _,oA.nil fun w t z=>by simp at z⟩
   (fun i zs H3 z=>z.2.1) (fun i zs H3 z=>by rw [z.1]; exact s2.seqT hap) ?_ ?_⟩
  ·rintro i zs σ v H3 hv ⟨v0,rfl⟩ ⟨rfl,hz,hE⟩ hsz
   obtain ⟨t,ht,rfl⟩:=iO hv
   refine bK ?_
   refine ⟨_,rfl,_,rfl,dp,_,rfl,.inl (s2.seqL g.2.2.1),.inl t,rfl,hsz,⟨_,rfl⟩,rfl,Qz (fU _ _ _) (by omega),?_⟩
   rw [Qb]
   refine (hE.put hs.length t).congr fun w t'=>?_
   rw [Jh,ht]
   constructor
   ·rintro (⟨h1,h2⟩ | ⟨h1,h2⟩)
    ·exact ⟨h1,Jl _ h2⟩
    ·exact ⟨h1,by rw [h2]; simp⟩
   ·rintro ⟨h1,h2⟩
    rcases Jk.mp h2 with h | h
    ·exact .inl ⟨h1,h⟩
    ·exact .inr ⟨h1,by simpa using h⟩
  ·rintro zs H3 ⟨rfl,hz,hE⟩ dq hdq
   have hrp2:H3 rp=some (.lst (qs.map V.ref)):=R2.lst
   have sd:=aE.new (o:=.dK zs) hdq
   have hdq0:H dq=none:=s2.free hdq
   have ed:upd H3 dq (.dK zs) dq=some (.dK zs):=aC
   have Rd:=R2.same sd
   have s3:=s2.trans sd
   generalize upd H3 dq (.dK zs)=H4 at sd ed Rd s3 ⊢
   refine ⟨sz1 _,fun lq hlq=>?_⟩
   have sl:=aE.new (o:=.lst [.ref dq]) hlq
   have el:upd H4 lq (.lst [.ref dq]) lq=some (.lst [.ref dq]):=aC
   have s4:=s3.trans sl
   have Rl:=Rd.same sl
   have edl:=sl _ _ ed
   generalize upd H4 lq (.lst [.ref dq])=H5 at sl el s4 Rl edl ⊢
   have hqn:qs.length=n.toNat:=by rw [R2.len,hlr]
   refine ⟨rp,lq,_,_,rfl,rfl,Rl.lst,el,by rw [Qb,sizeLine_eq]; show _+1<=_; omega,fun rq hrq=>?_⟩
   have sr:=aE.new (o:=.lst (qs.map V.ref++[.ref dq])) hrq
   have s5:=s4.trans sr
   have er:upd H5 rq (.lst (qs.map V.ref++[.ref dq])) rq=some (.lst ((qs++[dq]).map V.ref)):=by rw [aC,Qx]; rfl
   have edr:=sr _ _ edl
   have Rr:=Rl.same sr
   generalize upd H5 rq (.lst (qs.map V.ref++[.ref dq]))=H6 at sr s5 er edr Rr ⊢
   have R6:Rows H6 rq (qs++[dq]) (rs++[zs]):=by
    refine ⟨er,by rw [Qk,Qk,R2.len]; rfl,?_,fun g q r h1 h2=>?_⟩
    ·rw [Zw]
     refine ⟨R2.nd,by simp,fun x hx y hy e=>?_⟩
     rw [Qu.mp hy] at e
     obtain ⟨i,hi⟩:=Qy.mp hx
     have hil:i < rs.length:=by rw [<- R2.len]; exact (Qd.mp hi).1
     have:=R2.row i x _ hi (Qc hil)
     rw [e,hdq] at this; cases this
    ·by_cases hg:g < qs.length
     ·rw [Qs hg] at h1
      rw [Qs (by rw [<- R2.len]; exact hg)] at h2
      exact Rr.row g q r h1 h2
     ·have eg:g=qs.length:=by
       have:=(Qd.mp h1).1
       rw [Qk] at this
       simp at this
       omega
      subst eg
      rw [Qw (Qh _),Xf] at h1
      rw [R2.len,Qw (Qh _),Xf] at h2
      have e1:dq=q:=by simpa using h1
      have e2:zs=r:=by simpa using h2
      subst e1 e2
      exact edr
   have E6:oS (dQ (ws++[able]) (hs++[n])) (rs++[zs]) 100:=by
    intro g r hgr
    by_cases hg:g < rs.length
    ·rw [Qs hg] at hgr
     obtain ⟨e1,e2⟩:=ER g r hgr
     refine ⟨e1.congr fun w t=>?_,e2⟩
     rw [gR hdl]
     exact ⟨.inl,fun z=>z.elim id fun z=>by omega⟩
    ·have eg:g=rs.length:=by
      have:=(Qd.mp hgr).1
      rw [Qk] at this
      simp at this
      omega
     subst eg
     rw [Qw (Qh _),Xf] at hgr
     have e2:zs=r:=by simpa using hgr
     subst e2
     refine ⟨hE.congr fun w t=>?_,by rw [Qb] at hz; omega⟩
     rw [gR hdl,Qb,Js]
     constructor
     ·rintro ⟨h1,h2⟩
      have:=able1 t h2
      exact .inr ⟨h1,by omega,h2,by omega⟩
     ·rintro (⟨h1,_⟩ | ⟨h1,_,h2,_⟩)
      ·have h3:hs[w]?=some ((rs.length:Nat):Int):=h1
       have:=g.hand h3
       omega
      ·exact ⟨h1,h2⟩
   refine ⟨_,rfl,rq,n,qs++[dq],rs++[zs],n+1,ws++[able],hs++[n],rfl,R6,by rw [Qk,hlr]; show _+1=_; omega,E6,hedge,by omega,by omega,by omega,fun fdp H7 fs os s7 hfd e7 T7 C7=>?_⟩
   have s57:=s5.trans s7
   have T7l:=T7.len
   have hfl:=T7.flen
   have hnos:n∈os:=Qe T7.head
   refine ⟨_,rfl,fdp,fs,rfl,e7,fun o=>tJ (a:=fdp) (o:=o) (kvs:=fs) (fun σ=>∃ v,σ = [v,some (.int n)]) (fun i zs H8=>H8=upd H7 fdp (.frz o (.dK fs))/\zs=((os.take i).filter fun o=>decide (o≠n)).map V.int) (cV (by omega)) ⟨_,rfl⟩ ⟨rfl,rfl⟩ (fun i zs H8 z=>?_) (fun i zs H8 z=>by rw [z.1]; exact aC) ?_ ?_⟩
   ·rw [z.2,Qb]
    exact Qz (We _ _) (by rw [Ja]; omega)
   ·rintro i zs' σ p H8 hp ⟨v,rfl⟩ ⟨rfl,rfl⟩ hsz
    obtain ⟨ov,hov,hpe⟩:∃ ov,os[i]?=some ov/\p.1=.inl ov:=by
     have e:=congrArg (fun l=>l[i]?) T7.keys
     simp only [Qg] at e
     rw [hp] at e
     cases q:os[i]? with
     | none=>rw [q] at e; cases e
     | some ov=>rw [q] at e; exact ⟨ov,rfl,Option.some.inj e⟩
    have etake:os.take (i+1)=os.take i++[ov]:=by rw [Jh,hov]; rfl
    rw [hpe]
    refine ⟨_,rfl,_,rfl,rfl,_,rfl,?_⟩
    refine eK (fun c=>?_) (fun c=>?_)
    ·have hne:ov≠n:=fun z=>by rw [z] at c; simp [kV] at c
     refine ⟨_,rfl,hsz,⟨_,rfl⟩,rfl,?_⟩
     rw [etake,Zt,Qx]
     congr 1
     simp [hne,kV]
    ·have hne:ov=n:=by simpa [kV] using c
     refine ⟨⟨_,rfl⟩,rfl,?_⟩
     rw [etake,Zt,hne]
     simp
   ·rintro zs' H8 ⟨rfl,rfl⟩ lp hlp
    rw [hfl,Js] at *
    have nlf:fdp≠lp:=fun z=>by rw [<- z,aC] at hlp; cases hlp
    have hlp7:H7 lp=none:=by rw [aI (Ne.symm nlf)] at hlp; exact hlp
    have s8:aE H7 (upd (upd (upd H7 fdp (.frz o (.dK fs))) lp (.lst ((os.filter fun o=>decide (o≠n)).map V.int))) fdp (.dK fs)):=fun b u hb=>by
     by_cases hbf:b=fdp
     ·rw [hbf] at hb ⊢
      rw [aC,<- e7]; exact hb
     ·rw [aI hbf,aI (fun z=>by rw [z,hlp7] at hb; cases hb),aI hbf]
      exact hb
    have l8:(upd (upd (upd H7 fdp (.frz o (.dK fs))) lp (.lst ((os.filter fun o=>decide (o≠n)).map V.int))) fdp (.dK fs)) lp=some (.lst ((os.filter fun o=>decide (o≠n)).map V.int)):=by
     rw [aI (Ne.symm nlf),aC]
    generalize upd (upd (upd H7 fdp (.frz o (.dK fs))) lp (.lst ((os.filter fun o=>decide (o≠n)).map V.int))) fdp (.dK fs)=H8 at s8 l8 ⊢
    have s58:=s57.trans s8
    have hrng:∀ o∈os,o≠n->0<=o/\o < n:=fun o ho hne=>by
     have:=T7.rng o ho
     omega
    obtain ⟨t0,ht0⟩:∃ t,t∈able:=List.exists_mem_of_ne_nil _ able0
    have ht0n:=able1 t0 ht0
    have ht0o:t0∈os:=C7 n hnos hs.length t0 ((gR hdl).mpr (.inr ⟨rfl,rfl,ht0,by omega⟩))
    refine ⟨os.filter fun o=>decide (o≠n),fun o=>ms.getD o.toNat 0,.ref mp,⟨lp,rfl,.inl (SqL.of l8)⟩,List.length_pos_of_mem (a:=t0) (Za.mpr ⟨ht0o,decide_eq_true (by omega)⟩),s58 _ _ hT,rfl,fun o ho=>?_,fun j m H9 s9 hj hmin _=>?_⟩
    ·obtain ⟨ho1,ho2⟩:=Za.mp ho
     obtain ⟨o0,o1⟩:=hrng o ho1 (of_decide_eq_true ho2)
     refine ⟨o0,by omega,mp,_,rfl,.inr (s58.seqL hmp),?_⟩
     rw [Qg,Qc (by omega)]
     show some (V.int _)=some (V.int (ms.getD o.toNat 0))
     rw [Qn,Qc (by omega)]
     rfl
    ·obtain ⟨hm1,hm2⟩:=Za.mp (Qe hj)
     have hmn:m≠n:=of_decide_eq_true hm2
     obtain ⟨jl,hjl⟩:=Qy.mp hm1
     have s59:=s58.trans s9
     have s79:=s8.trans s9
     refine ⟨_,rfl,_,rfl,fdp,m,fs,os,n,n+1,ws++[able],hs++[n],jl,rfl,s79 _ _ e7,T7.tp (Tp.of s79),by omega,hjl,fun p H10 ps ss s10 hp hps S10 P10 N10 in10 ne10=>?_⟩
     refine k p H10 ps ss os m (s59.trans s10) (s59.free hp) hps S10 P10 N10 (ne10 ?_) C7 hnos (fun o ho hne=>⟨(hrng o ho hne).1,(hrng o ho hne).2,hmin o (Za.mpr ⟨ho,decide_eq_true hne⟩)⟩) hm1 hmn in10
     rcases Ym jl with z | z
     ·rw [z,T7.head] at hjl
      exact absurd (Option.some.inj hjl).symm hmn
     ·exact z
end
def xD:Str:=("levels_or_way" : Str) ++ ".<locals>." ++ "<lambda>"
theorem rM {n:Int} {hs:List Int} {h:Int} (h0:0<=h) (h1:h < n):atI ((aL n hs).map V.int) h=some (.int ((hs.count h:Nat):Int)):=by
 have hlt:h.toNat < n.toNat:=by omega
 have hcast:((h.toNat:Nat):Int)=h:=by omega
 have h1:((aL n hs).map V.int)[h.toNat]?=some (.int ((hs.count h:Nat):Int)):=by rw [Qg,dJ hlt,hcast]; rfl
 have h2:=cI h1
 rwa [hcast] at h2
def aFG (n:Int) (ws:List (List Int)) (hs:List Int) (H H':Hp) (p:Addr):Prop :=
 (∃ q lv,H' p=some (.tup [.str "levels",.ref q])/\H' q=some (.tup (lv.map V.int))/\gJ n ws hs lv) ∨
 ∃ q ps ss,H' p=some (.tup [.str "way",.ref q])/\H q=none/\H' q=some (.lst (ps.map V.ref))/\StepsAt H' ps ss/\oR n ws hs ss
section
variable {P:Program} {w:World} {K:PySem.W.Frag} {mg:Str->Option Value} {base:Heap}
variable {fW fH fK fB fNB fD fND fL:Addr} {dW dH dK dB dNB dD dND dL:FuncData}
def aAz (K:PySem.W.Frag) (Pt:Addr):Sp:=fun vs H Q _=>∃ x y n ws hs,vs = [x,y]/\dM K H x y n ws hs/\H Pt=some (.tab xD)/\∀ p H',aE H H'->aFG n ws hs H H' p->Q (.ref p) H'
theorem rN:FnScope ["book", "deal", "many", "rows", "levels", "hand", "found", "last"] ["book", "deal"] (aF aCv):=⟨rfl,rfl,rfl,by decide +kernel,rfl,by decide +kernel,by decide +kernel⟩
theorem aEP {f fHd fR fW' c Pt:Addr} {fd dHd dR dW':FuncData} (G:Fn K mg "levels_or_way" aCv ["book", "deal"] f fd) (hc:fd.code=.ref c) (Z:Lm K mg base c Pt) (B:Bl mg) (R:Pr K mg fW fH fK fB fNB fD fND fL dW dH dK dB dNB dD dND dL)
  (GH:Fn K mg "handing" gE ["book", "deal"] fHd dHd) (GR:Fn K mg "reached" iW ["rows", "first"] fR dR) (GW:Fn K mg "way_to" qL ["found", "last"] fW' dW'):FnOk P w K mg base CX0 8 f fd ["book", "deal"] (aAz K Pt):=by
 have OL:FnOk P w K mg base CX0 7 fL dL ["book", "deal"] (pD K):=qT B R
 have OH:FnOk P w K mg base CX0 1 fHd dHd ["book", "deal"] (oB K):=rH GH B
 have OR:FnOk P w K mg base CX0 1 fR dR ["rows", "first"] (lF K):=lV GR B
 have OW:FnOk P w K mg base CX0 1 fW' dW' ["found", "last"] (vJ K):=xB GW B
 refine G.fn.okC hc rN (fun vs H Q E h=>?_) (fun A outer s H vs Q E hr h=>?_)
 ·obtain ⟨x,y,n,ws,hs,rfl,_⟩:=h
  rfl
 ·obtain ⟨x,y,n,ws,hs,rfl,g,hT,k⟩:=h
  have r1:Room 1 _:=hr.mono (by decide)
  refine ⟨_,(aD (aY (i:=2) rN.nd rfl (Or.inr rfl) (aT R.L OL hr rfl (aA (pv 0) (aA (pv 1) aB))))
   (aD (aY (i:=3) rN.nd rfl (Or.inl rfl) (aT GH OH r1 rfl (aA (pv 0) (aA (pv 1) aB))))
   (aD (aY (i:=4) rN.nd rfl (Or.inl rfl) (eM aB))
   (aD (dZ PassesOwn.never rfl (cK rfl B.range (aA (aU aZ (pv 0) aJ (fun _ _=>rfl)) aB)) (aH (i:=5) rN.nd rfl (Or.inl rfl))
    (aD (aY (i:=6) rN.nd rfl (Or.inl rfl) (aT GR OR r1 rfl (aA (pv 3) (aA (pv 5) aB))))
    (aD (aY (i:=7) rN.nd rfl (Or.inl rfl) (tI 2 rfl r1 rfl B.min Z rfl (q:=xD) rfl (pv 6) rfl rfl))
    (aD (bT (bB aD4 (cL xY (aU aZ (pv 2) (pv 5) (fun _ _=>rfl)) (aU aZ (pv 2) (pv 7) (fun _ _=>rfl))) aJ (bE _))
     (aG (aO (gN (aA xU (aA (aT GW OW r1 rfl (aA (pv 6) (aA (pv 7) aB))) aB)))))
     aW)
    (aG (cQ (mG PySem.F.plainAttrs_list PySem.F.slot_list_append PySem.F.type_list_append gO (pv 4) (aA (aU aZ (pv 2) (pv 7) (fun _ _=>rfl)) aB))))))))
   (aG (aO (gN (aA xU (aA (bQ bI rfl B.tuple bV (aA (pv 4) aB)) aB))))))))),?_⟩
  obtain ⟨hl12,hn1,hn6⟩:=g.len
  obtain ⟨a,b,ys,ex,ha,hb2,hys⟩:=bS g.1
  obtain ⟨_,_,hw12,hws⟩:=bC g.2.1
  have hedge:∀ g w t,dQ ws hs g w t->0<=t/\t < n:=fun g w t e=>by
   obtain ⟨_,l,h1,h2,_⟩:=e
   exact (bL (hws l (Qe h1))).2.1 t h2
  refine ⟨_,rfl,_,rfl,x,y,n,ws,hs,rfl,g,fun mp H1 s1 hmp=>?_⟩
  have g1:=g.same s1
  refine ⟨_,rfl,_,rfl,x,y,n,ws,hs,rfl,g1,fun rp H2 qs rs s2 hrp hqs R2 hlr ER=>?_⟩
  refine ⟨cV (show 0<=1000 by decide),fun lp hlp=>?_⟩
  have s12:=s1.trans s2
  have s3:=s12.trans (aE.new (o:=.lst []) hlp)
  have hlp0:H lp=none:=s12.free hlp
  have R3:=R2.same (aE.new (o:=.lst []) hlp)
  have m3:=(s2.trans (aE.new (o:=.lst []) hlp)) _ _ hmp
  have e3:upd H2 lp (.lst []) lp=some (.lst []):=aC
  have hrp0:H rp=none:=s1.free hrp
  have nrl:rp≠lp:=fun z=>by have:=R2.lst; rw [z,hlp] at this; cases this
  have nql:∀ q∈qs,q≠lp:=fun q hq z=>by
   obtain ⟨i,hi⟩:=Qy.mp hq
   have hil:i < rs.length:=by rw [<- R2.len]; exact (Qd.mp hi).1
   have:=R2.row i q _ hi (Qc hil)
   rw [z,hlp] at this; cases this
  have nml:mp≠lp:=fun z=>by have:=s2 _ _ hmp; rw [z,hlp] at this; cases this
  generalize upd H2 lp (.lst [])=H3 at s3 R3 m3 e3 ⊢
  subst ex
  refine ⟨_,rfl,a,_,0,.int n,rfl,rfl,s3.seqT ha,rfl,n,rfl,by omega,by omega,gM (lo:=0) (n:=n.toNat) (fun i σ H4=>∃ (v5 v6 v7:Option V) (lv:List Int),σ = [some (.ref a),some y,some (.ref mp),some (.ref rp),some (.ref lp),v5,v6,v7]/\aE H H4/\Rows H4 rp qs rs/\H4 mp=some (.tup ((aL n hs).map V.int))/\H4 lp=some (.lst (lv.map V.int))/\lv.length=i /\
    ∀ (h:Nat) (v:Int),lv[h]?=some v->nH ws hs n.toNat h v/\((hs.count (h:Int):Nat):Int) - v < 2)
   ⟨none,none,none,[],rfl,s3,R3,m3,e3,rfl,fun h v e=>by simp at e⟩ ?_ ?_⟩
  ·rintro i σ H4 hi ⟨v5,v6,v7,lv,rfl,s4,R4,m4,e4,hlv,L4⟩
   have hi0:(0:Int)<=0+(i:Int):=by omega
   have hi1:0+(i:Int) < n:=by omega
   refine ⟨_,rfl,_,rfl,rp,0+(i:Int),qs,rs,n,ws,hs,rfl,R4,hlr,ER,hedge,by omega,hi0,hi1,fun fdp H5 fs os s5 hfd e5 T5 C5=>?_⟩
   have s45:=s4.trans s5
   have R5:=R4.same s5
   have m5:=s5 _ _ m4
   have l5:=s5 _ _ e4
   have T5l:=T5.len
   have hpos:0 < os.length:=(Qd.mp T5.head).1
   refine ⟨_,rfl,os,fun o=>((hs.count o:Nat):Int),.ref mp,⟨fdp,rfl,.inr (.inr ⟨fs,e5,T5.keys⟩)⟩,hpos,s45 _ _ hT,rfl,fun o ho=>?_,fun j m H6 s6 hj hmin _=>?_⟩
   ·obtain ⟨o0,o1⟩:=T5.rng o ho
    refine ⟨o0,by omega,mp,_,rfl,.inl (SqT.of m5),?_⟩
    rw [Qg,dJ (by omega),show ((o.toNat:Nat):Int)=o by omega]
    rfl
   have hjl:j < os.length:=(Qd.mp hj).1
   obtain ⟨m0,m1⟩:=T5.rng m (Qe hj)
   have s46:=s45.trans s6
   have R6:=R5.same s6
   have m6:=s6 _ _ m5
   have l6:=s6 _ _ l5
   have e6:=s6 _ _ e5
   have T6:=T5.tp (Tp.of s6)
   have hRL:RL ws hs n.toNat (0+(i:Int)) m:=(T6.rl j m hj).mono (by omega)
   have hmin2:nH ws hs n.toNat (0+(i:Int)) ((hs.count m:Nat):Int):=by
    refine ⟨⟨m,hRL,rfl⟩,fun k x hx=>?_⟩
    exact hmin x (hx.closed (S:=fun o=>o∈os) (fun g w t hg e=>C5 g hg w t e) (Qe T5.head))
   refine ⟨_,rfl,_,rfl,mp,_,_,_,rfl,rfl,SqT.of m6,rM hi0 hi1,_,rfl,_,rfl,mp,_,_,_,rfl,rfl,SqT.of m6,rM m0 m1,_,_,rfl,rfl,_,_,rfl,rfl,_,rfl,?_⟩
   refine eK (fun c=>?_) (fun c=>?_)
   ·have hge:((hs.count (0+(i:Int)):Nat):Int) - ((hs.count m:Nat):Int)≥2:=of_decide_eq_true c
    refine ⟨_,rfl,_,rfl,fdp,m,fs,os,0+(i:Int),n,ws,hs,j,rfl,e6,T6,by omega,hj,fun p H7 ps ss s7 hp hps S7 P7 N7 _ ne7=>⟨sz2 _ _,fun q hq=>?_⟩⟩
    have s8:=aE.new (o:=.tup [.str "way",.ref p]) hq
    refine k q _ ((s46.trans s7).trans s8) (.inr ⟨p,ps,ss,aC,s46.free hp,s8 _ _ hps,S7.tp (Tp.of s8),0+(i:Int),m,ne7 ?_,P7,N7,hi0,hi1,hRL,hge⟩)
    rcases Ym j with z | z
    ·rw [z,T5.head] at hj
     cases hj
     omega
    ·exact z
   ·have hlt:¬ ((hs.count (0+(i:Int)):Nat):Int) - ((hs.count m:Nat):Int)≥2:=fun z=>c (decide_eq_true z)
    refine ⟨_,rfl,.inl ⟨rfl,_,SqL.of l6⟩,_,rfl,_,rfl,mp,_,_,_,rfl,rfl,SqT.of m6,rM m0 m1,lp,_,_,rfl,rfl,l6,by rw [Qb,sizeLine_eq]; omega,?_⟩
    refine ⟨_,_,_,lv++[((hs.count m:Nat):Int)],rfl,s46.wr hlp0,?_,by rw [aI nml]; exact m6,by rw [aC,Qx]; rfl,by rw [Qk,hlv]; rfl,fun h v e=>?_⟩
    ·refine ⟨by rw [aI nrl]; exact R6.lst,R6.len,R6.nd,fun g q r h1 h2=>?_⟩
     rw [aI (nql q (Qe h1))]
     exact R6.row g q r h1 h2
    ·by_cases hh:h < lv.length
     ·rw [Qs hh] at e
      exact L4 h v e
     ·have eh:h=i:=by
       have:=(Qd.mp e).1
       rw [Qk] at this
       simp at this
       omega
      subst eh
      rw [Qw (by omega),hlv,Xf] at e
      have ev:((hs.count m:Nat):Int)=v:=by simpa using e
      rw [<- ev]
      rw [Xp] at hmin2 hlt
      exact ⟨hmin2,by omega⟩
  ·rintro σ H4 ⟨v5,v6,v7,lv,rfl,s4,R4,m4,e4,hlv,L4⟩
   refine ⟨_,rfl,lp,_,rfl,.inl ⟨SqL.of e4,fun q hq=>⟨sz2 _ _,fun p hp=>?_⟩⟩⟩
   have s5:=(aE.new (o:=.tup (lv.map V.int)) hq).trans (aE.new (o:=.tup [.str "levels",.ref q]) hp)
   exact k p _ (s4.trans s5) (.inl ⟨q,lv,aC,(aE.new hp) _ _ aC,hlv,L4⟩)
end
def d2 (n:Int) (ws:List (List Int)) (hs:List Int):PyData:=.list [bY n ws,cM hs]
section
variable {ws:List (List Int)} {hs:List Int}
theorem lW:∀ {h x:Int} {ss:List (Nat×Int×Int)},cS ws hs h ss x->ss.map (·.2.1)++[x]=h::ss.map (·.2.2)
 | _,_,[],e=>by cases e; rfl
 | _,_,s::r,⟨e1,_,e3⟩=>by rw [Jj,Ya,lW e3,e1]; rfl
theorem lG:∀ {h x:Int} {ss:List (Nat×Int×Int)},cS ws hs h ss x->∀ (i:Nat) s,ss[i]?=some s->dQ ws hs s.2.1 s.1 s.2.2/\∀ s',0 < i->ss[i - 1]?=some s'->s'.2.2=s.2.1
 | _,_,[],_,i,s,hs=>by simp at hs
 | h,_,a::r,⟨e1,e2,e3⟩,0,s,hs'=>by
  have:a=s:=by simpa using hs'
  subst this
  exact ⟨by rw [e1]; exact e2,fun s' h0=>by omega⟩
 | h,_,a::r,⟨e1,e2,e3⟩,i+1,s,hs'=>by
  have hr:r[i]?=some s:=by simpa using hs'
  obtain ⟨p1,p2⟩:=lG e3 i s hr
  refine ⟨p1,fun s' _ hs2=>?_⟩
  cases i with
  | zero =>
   have e:a=s':=by simpa using hs2
   subst e
   cases r with
   | nil=>simp at hr
   | cons b r' =>
    have:b=s:=by simpa using hr
    subst this
    exact e3.1.symm
  | succ i=>exact p2 s' (by omega) (by simpa using hs2)
theorem tU:∀ {h x:Int} {ss:List (Nat×Int×Int)},cS ws hs h ss x->∀ s,ss[ss.length - 1]?=some s->s.2.2=x
 | _,_,[],_,s,e=>by simp at e
 | _,_,[a],⟨_,_,e3⟩,s,e=>by
  have:a=s:=by simpa using e
  subst this
  exact e3
 | _,_,a::b::r,⟨_,_,e3⟩,s,e=>tU e3 s (by simpa using e)
end
def jX (s:Nat×Int×Int):List Int:=[(s.1:Int),s.2.1,s.2.2]
theorem StepsAt.den {K:PySem.W.Frag} {H:Hp}:∀ {ps:List Addr} {ss:List (Nat×Int×Int)},StepsAt H ps ss->bA K H ((ss.map jX).map bO) (ps.map V.ref)
 | [],[],_=>bD.mpr rfl
 | [],_::_,h=>by have:=h.len; simp at this
 | _::_,[],h=>by have:=h.len; simp at this
 | p::ps,s::ss,h=>by
  have h0:=h.at_ 0 p s rfl rfl
  have hr:StepsAt H ps ss:=⟨by have:=h.len; simpa using this,fun i p' s' a b=>h.at_ (i+1) p' s' (by simpa using a) (by simpa using b)⟩
  exact aX.mpr ⟨_,_,rfl,aP.mpr ⟨p,rfl,SqT.of h0⟩,StepsAt.den hr⟩
end Ab
namespace L2
open PySem
end L2
namespace Ab
open PySem L2
section
variable {P:Program} {w:World} {K:PySem.W.Frag} {mg:Str->Option Value} {base:Heap}
end
theorem xE {ws:List (List Int)} {hs:List Int} {k g t:Int} (h:gI ws hs [k,g,t]=true):0<=k/\k < hs.length/\hs[k.toNat]?=some g/\t≠g/\t∈ws.getD k.toNat []:=by
 have h':(decide (0<=k) && (decide (k < hs.length) && (hs[k.toNat]?==some g && (!decide (t=g) && decide (t∈ws.getD k.toNat [])))))=true:=h
 simp only [Jc,decide_eq_true_eq,beq_iff_eq,Bool.not_eq_true',decide_eq_false_iff_not] at h'
 exact ⟨h'.1,h'.2.1,h'.2.2.1,h'.2.2.2.1,h'.2.2.2.2⟩
def lO (hs:List Int) (L:List (List Int)):List Int:=L.foldl (fun h st=>h.set (st.getD 0 0).toNat (rF st)) hs
theorem aBu (L:List (List Int)):∀ hs:List Int,(lO hs L).length=hs.length:=by
 induction L with
 | nil=>intro hs; rfl
 | cons s r ih=>intro hs; show (lO (hs.set _ _) r).length=_; rw [ih,Xk]
theorem zG (hs:List Int) (L:List (List Int)) (st:List Int):lO hs (L++[st])=(lO hs L).set (st.getD 0 0).toNat (rF st):=by unfold lO; rw [List.foldl_append]; rfl
section
variable {P:Program} {w:World} {K:PySem.W.Frag} {mg:Str->Option Value} {base:Heap}
variable {fW fH fK fB fNB fD fND fL:Addr} {dW dH dK dB dNB dD dND dL:FuncData}
def WIn (K:PySem.W.Frag) (H:Hp) (x y:V) (p:Addr) (xs:List V) (n:Int) (ws:List (List Int)) (hs:List Int) (L:List (List Int)):Prop:=dM K H x y n ws hs/\SqL K H p xs/\bA K H (L.map bO) xs/\L.length<=30/\∀ l∈L,l.length<=1000
theorem WIn.same {H H':Hp} {x y:V} {p:Addr} {xs:List V} {n:Int} {ws:List (List Int)} {hs:List Int} {L:List (List Int)} (h:WIn K H x y p xs n ws hs L) (s:aE H H'):WIn K H' x y p xs n ws hs L:=⟨h.1.same s,s.seqL h.2.1,s.denAll _ _ h.2.2.1,h.2.2.2⟩
theorem WIn.nth {H:Hp} {x y:V} {p:Addr} {xs:List V} {n:Int} {ws:List (List Int)} {hs:List Int} {L:List (List Int)} (h:WIn K H x y p xs n ws hs L) (hw:rG ws hs L=true) {i:Nat} {u:V} (hu:xs[i]?=some u) :
  ∃ (c:Addr) (kk gg tt:Int),u=.ref c/\L[i]?=some [kk,gg,tt]/\SqT K H c [.int kk,.int gg,.int tt]/\gI ws hs [kk,gg,tt]=true:=by
 have hx:=aN h.2.2.1
 rw [Qb] at hx
 have hlt:i < L.length:=by have:=(Qd.mp hu).1; omega
 have el:L[i]?=some L[i]:=Qc hlt
 obtain ⟨c1,e1,e2⟩:=jU h.2.2.1 el
 rw [hu] at e1
 have hall:L.all (gI ws hs)=true:=by unfold rG at hw; simp only [Jc] at hw; exact hw.2.1
 have hst:=Jd.mp hall _ (Xg hlt)
 obtain ⟨kk,gg,tt,e3⟩:=tT hst
 rw [e3] at e2 el hst
 exact ⟨c1,kk,gg,tt,Option.some.inj e1,el,e2,hst⟩
def aAA (K:PySem.W.Frag):Sp:=fun vs H Q _=>∃ x y p xs n ws hs L,vs = [x,y,.ref p]/\WIn K H x y p xs n ws hs L/\rG ws hs L=true/\∀ H',aE H H'->Q .non H'
theorem aDR:FnScope ["book", "deal", "some"] ["book", "deal", "some"] (aF vB):=⟨rfl,rfl,rfl,by decide +kernel,rfl,by decide +kernel,by decide +kernel⟩
theorem aCQ {f fWy fS:Addr} {fd dWy dS:FuncData} (G:Fn K mg "need_way" vB ["book", "deal", "some"] f fd) (B:Bl mg) (R:Pr K mg fW fH fK fB fNB fD fND fL dW dH dK dB dNB dD dND dL) (GW:Fn K mg "is_way" yS ["book", "deal", "some"] fWy dWy) (GS:Fn K mg "is_step" tL ["book", "deal", "step"] fS dS):FnOk P w K mg base CX0 8 f fd ["book", "deal", "some"] (aAA K):=by
 have OWy:FnOk P w K mg base CX0 7 fWy dWy ["book", "deal", "some"] (aEd K):=aEO GW B R GS
 refine G.fn.ok aDR (fun vs H Q E h=>?_) (fun cdv A outer s H vs Q E hr h=>?_)
 ·obtain ⟨x,y,p,xs,n,ws,hs,L,rfl,_⟩:=h
  rfl
 ·obtain ⟨x,y,p,xs,n,ws,hs,L,rfl,hi,hw,k⟩:=h
  refine ⟨_,aG (bT (cF (cJ (aT GW OWy hr rfl (aA (pv 0) (aA (pv 1) (aA (pv 2) aB)))))) kU aW),?_⟩
  refine ⟨_,rfl,_,rfl,_,rfl,x,y,p,xs,n,ws,hs,L,rfl,hi.1,hi.2.1,hi.2.2.1,hi.2.2.2.1,hi.2.2.2.2,fun H' s1=>⟨_,rfl,?_⟩⟩
  rw [hw]
  refine eE ?_
  exact k H' s1
def aCR (K:PySem.W.Frag):Sp:=fun vs H Q _=>∃ x y p xs n ws hs L,vs = [x,y,.ref p]/\WIn K H x y p xs n ws hs L/\rG ws hs L=true/\∀ q H',aE H H'->H q=none->H' q=some (.tup ((lO hs L).map V.int))->Q (.ref q) H'
theorem rO:FnScope ["book", "deal", "some", "behind", "work", "giver", "taker"] ["book", "deal", "some"] (aF aAl):=⟨rfl,rfl,rfl,by decide +kernel,rfl,by decide +kernel,by decide +kernel⟩
theorem aDS {f fN:Addr} {fd dN:FuncData} (G:Fn K mg "gone" aAl ["book", "deal", "some"] f fd) (B:Bl mg) (GNW:Fn K mg "need_way" vB ["book", "deal", "some"] fN dN) (ONW:FnOk P w K mg base CX0 8 fN dN ["book", "deal", "some"] (aAA K)):FnOk P w K mg base CX0 9 f fd ["book", "deal", "some"] (aCR K):=by
 refine G.fn.ok rO (fun vs H Q E h=>?_) (fun cdv A outer s H vs Q E hr h=>?_)
 ·obtain ⟨x,y,p,xs,n,ws,hs,L,rfl,_⟩:=h
  rfl
 ·obtain ⟨x,y,p,xs,n,ws,hs,L,rfl,hi,hw,k⟩:=h
  have r8:Room 8 _:=hr
  refine ⟨_,(aD (cQ (aT GNW ONW r8 rfl (aA (pv 0) (aA (pv 1) (aA (pv 2) aB)))))
  (aD (aY (i:=3) rO.nd rfl (Or.inl rfl) (bQ jK rfl B.list uZ (aA (pv 1) aB)))
  (aD (dZ PassesOwn.never rfl (jJ (pv 2)) (eU rfl (aQ (aH (i:=4) rO.nd rfl (Or.inl rfl)) (aQ (aH (i:=5) rO.nd rfl (Or.inl rfl)) (aQ (aH (i:=6) rO.nd rfl (Or.inl rfl)) cH))))
   (aG (iG (pv 6) (uD (pv 3) (pv 4) mF))))
  (aG (aO (bQ bI rfl B.tuple bV (aA (pv 3) aB))))))),?_⟩
  refine ⟨_,rfl,_,rfl,_,rfl,x,y,p,xs,n,ws,hs,L,rfl,hi,hw,fun H1 s1=>?_⟩
  have hi1:=hi.same s1
  obtain ⟨c0,rfl,hc0⟩:=aP.mp hi1.1.2.2.1
  have hxl:=aN hi.2.2.1
  rw [Qb] at hxl
  refine ⟨_,rfl,c0,_,rfl,.inr hc0,fun bh hbh=>?_⟩
  have s2:=aE.new (o:=.lst (hs.map V.int)) hbh
  have e2:upd H1 bh (.lst (hs.map V.int)) bh=some (.lst (hs.map V.int)):=aC
  generalize upd H1 bh (.lst (hs.map V.int))=H2 at s2 e2 ⊢
  refine ⟨_,rfl,p,rfl,⟨_,(hi1.same s2).2.1⟩,mB (K:=K) (a:=p) (xs:=xs) (fun i σ H3=>∃ v4 v5 v6,σ = [some x,some (.ref c0),some (.ref p),some (.ref bh),v4,v5,v6]/\aE H1 H3/\H3 bh=some (.lst ((lO hs (L.take i)).map V.int))) ⟨_,_,_,rfl,s2,e2⟩ (fun i σ H3 _ ⟨_,_,_,_,s3,_⟩=>(hi1.same s3).2.1) ?_ ?_⟩
  ·rintro i u σ H3 hu ⟨v4,v5,v6,rfl,s3,e3⟩
   obtain ⟨c,kk,gg,tt,rfl,el,hc,hst⟩:=(hi1.same s3).nth hw hu
   obtain ⟨k0,k1,_⟩:=xE hst
   refine ⟨c,_,rfl,hc,rfl,_,_,rfl,_,_,rfl,_,_,rfl,rfl,?_⟩
   refine ⟨_,rfl,_,rfl,_,rfl,bh,_,kk,kk.toNat,rfl,rfl,e3,aCO k0 (by rw [Qb,aBu]; exact k1),?_⟩
   refine ⟨_,_,_,rfl,s3.wr hbh,?_⟩
   rw [aC,Jh,el]
   show some (HO.lst _)=some (HO.lst ((lO hs (L.take i++[[kk,gg,tt]])).map V.int))
   rw [zG,List.map_set]
   rfl
  ·rintro σ H3 ⟨v4,v5,v6,rfl,s3,e3⟩
   rw [hxl,Jf (Qh _)] at e3
   refine ⟨_,rfl,bh,_,rfl,.inl ⟨SqL.of e3,fun q hq=>k q _ ((s1.trans s3).trans (aE.new hq)) ((s1.trans s3).free hq) aC⟩⟩
end
end Ab
namespace Ab
section
variable {ws:List (List Int)}
def cW (hs:List Int) (ss:List (Nat×Int×Int)):List Int:=ss.foldl (fun h s=>h.set s.1 s.2.2) hs
theorem oC:∀ (ss:List (Nat×Int×Int)) (hs:List Int),(cW hs ss).length=hs.length
 | [],_=>rfl
 | s::r,hs=>by show (cW (hs.set s.1 s.2.2) r).length=_; rw [oC r,Xk]
theorem rP:∀ (hs:List Int) (w:Nat) (g t c:Int),hs[w]?=some g->(((hs.set w t).count c:Nat):Int)=((hs.count c:Nat):Int) - (if c=g then 1 else 0)+(if c=t then 1 else 0)
 | [],w,g,t,c,h=>by simp at h
 | a::r,0,g,t,c,h=>by
  have e:a=g:=by simpa using h
  subst e
  rw [List.set_cons_zero,Xo,Xo]
  by_cases h1:c=a <;> by_cases h2:c=t
  ·subst h1; subst h2; simp
  ·subst h1; have:(t==c)=false:=by simpa using fun z=>h2 z.symm
   simp [h2,this]
  ·subst h2; have:(a==c)=false:=by simpa using fun z=>h1 z.symm
   simp [h1,this]
  ·have e1:(a==c)=false:=by simpa using fun z=>h1 z.symm
   have e2:(t==c)=false:=by simpa using fun z=>h2 z.symm
   simp [h1,h2,e1,e2]
 | a::r,w+1,g,t,c,h=>by
  have ih:=rP r w g t c (by simpa using h)
  rw [List.set_cons_succ,Xo,Xo]
  omega
theorem xF {hs:List Int} {w:Nat} {g u:Int} (hg:hs[w]?=some g):∀ {h x:Int} {r:List (Nat×Int×Int)},cS ws hs h r x->(∀ s∈r,s.2.1≠g)->cS ws (hs.set w u) h r x
 | _,_,[],e,_=>e
 | h,_,s::r,⟨e1,⟨e2,e3⟩,e4⟩,hn=>by
  refine ⟨e1,⟨?_,e3⟩,xF hg e4 fun s' hs'=>hn s' (Qr _ hs')⟩
  have hne:w≠s.1:=fun z=>by
   subst z
   rw [hg] at e2
   exact hn s (Qq ..) (e1.trans (Option.some.inj e2).symm)
  rw [Yc hne]
  exact e2
theorem xG {hs:List Int} {h x:Int} {ss:List (Nat×Int×Int)} (hp:cS ws hs h ss x):∀ s∈ss,s.2.1∈h::ss.map (·.2.2):=fun s hs'=>by
 rw [<- lW hp]
 exact Jl _ (Jm.mpr ⟨s,hs',rfl⟩)
theorem lX:∀ (ss:List (Nat×Int×Int)) {hs:List Int} {h x:Int},cS ws hs h ss x->(h::ss.map (·.2.2)).Nodup->∀ c:Int,(((cW hs ss).count c:Nat):Int)=((hs.count c:Nat):Int) - (if c=h then 1 else 0)+(if c=x then 1 else 0)
 | [],hs,h,x,hp,_,c=>by
  have e:h=x:=hp
  subst e
  show ((hs.count c:Nat):Int)=_
  omega
 | s::r,hs,h,x,⟨e1,e2,e3⟩,hn,c=>by
  rw [Jj,Xq] at hn
  have h1:=xF (u:=s.2.2) e2.1 e3 fun s' hs' z=>hn.1 (by rw [<- z]; exact xG e3 s' hs')
  have ih:=lX r h1 hn.2 c
  have e:=rP hs s.1 h s.2.2 c e2.1
  show (((cW (hs.set s.1 s.2.2) r).count c:Nat):Int)=_
  omega
theorem oE:∀ (ss:List (Nat×Int×Int)) {hs:List Int},(∀ s∈ss,∃ l,ws[s.1]?=some l/\s.2.2∈l)->(∀ (j:Nat) (h:Int) (l:List Int),hs[j]?=some h->ws[j]?=some l->h∈l)->∀ (j:Nat) (h:Int) (l:List Int),(cW hs ss)[j]?=some h->ws[j]?=some l->h∈l
 | [],_,_,hd=>hd
 | s::r,hs,hl,hd=>oE r (fun s' h'=>hl s' (Qr _ h')) fun j h l e1 e2=>by
  obtain ⟨l',z1,z2⟩:=hl s (Qq ..)
  rw [Xi] at e1
  by_cases z:s.1=j
  ·subst z
   rw [if_pos rfl] at e1
   split at e1
   ·rw [z1] at e2
    rw [<- Option.some.inj e2,<- Option.some.inj e1]; exact z2
   ·cases e1
  ·rw [if_neg z] at e1
   exact hd j h l e1 e2
def Tri:Nat->Nat
 | 0=>0
 | k+1=>Tri k+k
def Sm (g:Nat->Nat):Nat->Nat
 | 0=>0
 | n+1=>Sm g n+g n
theorem aAB {g g':Nat->Nat}:∀ n:Nat,(∀ i,i < n->g' i=g i)->Sm g' n=Sm g n
 | 0,_=>rfl
 | n+1,h=>by show Sm g' n+g' n=Sm g n+g n; rw [aAB n fun i hi=>h i (by omega),h n (by omega)]
theorem zH {g g':Nat->Nat} {a:Nat}:∀ n:Nat,a < n->(∀ i,i < n->i≠a->g' i=g i)->Sm g' n+g a=Sm g n+g' a
 | 0,h,_=>by omega
 | n+1,h,hh=>by
  show Sm g' n+g' n+g a=Sm g n+g n+g' a
  by_cases e:a=n
  ·subst e
   rw [aAB a fun i hi=>hh i (by omega) (by omega)]
   omega
  ·have ih:=zH (g:=g) (g':=g') n (by omega) fun i hi hn=>hh i (by omega) hn
   rw [hh n (by omega) (fun z=>e z.symm)]
   omega
theorem aCS:∀ k:Nat,k<=12->Tri k<=12*k
 | 0,_=>Qh _
 | k+1,h=>by have:=aCS k (by omega); show Tri k+k<=_; omega
theorem aEe {g:Nat->Nat} {b:Nat} (h:∀ i,g i<=b):∀ n,Sm g n<=b*n
 | 0=>Jo _
 | n+1=>by have:=aEe h n; have:=h n; show Sm g n+g n<=_; rw [Nat.mul_succ]; omega
def Phi (n:Nat) (hs:List Int):Nat:=Sm (fun i=>Tri (hs.count (i:Int))) n
theorem aEQ {n:Nat} {hs:List Int} (h6:n<=6) (h:hs.length<=12):Phi n hs<=864:=by
 have:=aEe (g:=fun i=>Tri (hs.count (i:Int))) (b:=144) (fun i=>by
  have h1:hs.count (i:Int)<=hs.length:=Jz
  have h2:=aCS _ (Qz h1 h)
  show Tri (hs.count (i:Int))<=144
  omega) n
 unfold Phi
 omega
theorem aCT {n:Int} {hs:List Int} {ss:List (Nat×Int×Int)} (W:oR n ws hs ss) (ht:∀ g w t,dQ ws hs g w t->0<=t/\t < n):Phi n.toNat (cW hs ss) < Phi n.toNat hs:=by
 obtain ⟨h,x,hne,hP,hN,hh0,hh1,hRL,hge⟩:=W
 obtain ⟨s,hs'⟩:∃ s,ss[ss.length - 1]?=some s:=⟨_,Qc (by have:=Yj.mpr hne; omega)⟩
 have ex:=tU hP s hs'
 have hx:=ht _ _ _ (lG hP _ s hs').1
 rw [ex] at hx
 have hc:=lX ss hP hN
 have hhx:h≠x:=fun z=>by rw [z] at hge; omega
 have e1:=zH (g:=fun i=>Tri (hs.count (i:Int))) (g':=fun i=>if i=h.toNat then Tri (hs.count h - 1) else Tri (hs.count (i:Int))) (a:=h.toNat) n.toNat (by omega) (fun i _ z=>if_neg z)
 have e2:=zH (g:=fun i=>if i=h.toNat then Tri (hs.count h - 1) else Tri (hs.count (i:Int))) (g':=fun i=>Tri ((cW hs ss).count (i:Int))) (a:=x.toNat) n.toNat (by omega) (fun i hi z=>by
  have hci:=hc (i:Int)
  by_cases zh:i=h.toNat
  ·have zi:(i:Int)=h:=by omega
   rw [if_pos zh]
   rw [zi,if_pos rfl,if_neg hhx] at hci
   rw [zi]
   show Tri ((cW hs ss).count h)=_
   congr 1
   omega
  ·rw [if_neg zh]
   rw [if_neg (show ¬ (i:Int)=h by omega),if_neg (show ¬ (i:Int)=x by omega)] at hci
   show Tri ((cW hs ss).count (i:Int))=_
   congr 1
   omega)
 have ch:((h.toNat:Nat):Int)=h:=by omega
 have cx:((x.toNat:Nat):Int)=x:=by omega
 simp only [if_pos,ch,cx,if_neg (show ¬ x.toNat=h.toNat by omega)] at e1 e2
 have hcx:=hc x
 rw [if_neg (fun z=>hhx z.symm),if_pos rfl] at hcx
 have hcx':(cW hs ss).count x=hs.count x+1:=by omega
 rw [hcx'] at e2
 have t1:Tri (hs.count x+1)=Tri (hs.count x)+hs.count x:=rfl
 have t2:Tri (hs.count h)=Tri (hs.count h - 1)+(hs.count h - 1):=by
  have:hs.count h=(hs.count h - 1)+1:=by omega
  conv=>lhs; rw [this]
  rfl
 unfold Phi
 omega
def nI (n:Int) (ws:List (List Int)):List Int->List (List (Nat×Int×Int))->List Int->Prop
 | hs,[],he=>hs=he
 | hs,ss::r,he=>oR n ws hs ss/\nI n ws (cW hs ss) r he
theorem nI.snoc {n:Int}:∀ {hs:List Int} {W:List (List (Nat×Int×Int))} {hc:List Int} {ss:List (Nat×Int×Int)},nI n ws hs W hc->oR n ws hc ss->nI n ws hs (W++[ss]) (cW hc ss)
 | _,[],_,_,e,w=>by cases e; exact ⟨w,rfl⟩
 | _,_::_,_,_,⟨a,b⟩,w=>⟨a,nI.snoc b w⟩
end
end Ab
namespace Ab
open PySem L2
theorem aAC:∀ (ss:List (Nat×Int×Int)) (hs:List Int),lO hs (ss.map jX)=cW hs ss
 | [],_=>rfl
 | s::r,hs=>by
  have e:((jX s).getD 0 0).toNat=s.1:=Jw _
  show lO (hs.set ((jX s).getD 0 0).toNat (rF (jX s))) (r.map jX)=cW (hs.set s.1 s.2.2) r
  rw [e,aAC r]
  rfl
theorem aDT {ws:List (List Int)} {hs:List Int} {h x:Int} {ss:List (Nat×Int×Int)} (hne:ss≠[]) (hP:cS ws hs h ss x) (hN:(h::ss.map (·.2.2)).Nodup):rG ws hs (ss.map jX)=true:=by
 have hp:bU (ss.map jX)=h::ss.map (·.2.2):=by
  cases ss with
  | nil=>exact absurd rfl hne
  | cons s r =>
   show jT (jX s)::((s::r).map jX).map rF=_
   rw [Zp,show jT (jX s)=h from hP.1]
   rfl
 unfold rG pE
 rw [hp,decide_eq_true hN,Bool.and_true,Jc,Jc]
 refine ⟨?_,?_,?_⟩
 ·cases ss with
  | nil=>exact absurd rfl hne
  | cons _ _=>rfl
 ·rw [Jd]
  intro st hst
  obtain ⟨s,hs',rfl⟩:=Jm.mp hst
  obtain ⟨i,hi⟩:=Qy.mp hs'
  obtain ⟨⟨e1,l,e2,e3,e4⟩,_⟩:=lG hP i s hi
  have hlt:=(Qd.mp e1).1
  show (decide (0<=(s.1:Int)) && (decide ((s.1:Int) < hs.length) && (hs[(s.1:Int).toNat]?==some s.2.1 && (!decide (s.2.2=s.2.1) && decide (s.2.2∈ws.getD (s.1:Int).toNat [])))))=true
  rw [Jw,e1,Qn,e2,decide_eq_true (show (0:Int)<=s.1 by omega),decide_eq_true (show (s.1:Int) < hs.length by omega),decide_eq_false e4,decide_eq_true (show s.2.2∈(some l).getD [] from e3)]
  simp
 ·rw [<- lW hP,Jd]
  intro p hp'
  obtain ⟨i,hi⟩:=Qy.mp hp'
  rw [Jn] at hi
  obtain ⟨h1,h2⟩:=hi
  rw [Qg] at h1
  cases q:ss[i]? with
  | none=>rw [q] at h1; cases h1
  | some s =>
   rw [q] at h1
   have hlt:=(Qd.mp q).1
   rw [Qs (by rw [Qb]; exact hlt),Qg,q] at h2
   rw [<- Option.some.inj h1,<- Option.some.inj h2]
   exact beq_self_eq_true _
structure WaysAt (H:Hp) (qs:List Addr) (Ws:List (List (Nat×Int×Int))):Prop where
 len:qs.length=Ws.length
 at_:∀ (i:Nat) q ss,qs[i]?=some q->Ws[i]?=some ss->∃ ps:List Addr,H q=some (.lst (ps.map V.ref))/\StepsAt H ps ss
theorem WaysAt.same {H H':Hp} {qs:List Addr} {Ws:List (List (Nat×Int×Int))} (h:WaysAt H qs Ws) (s:aE H H'):WaysAt H' qs Ws:=⟨h.len,fun i q ss a b=>let ⟨ps,h1,h2⟩:=h.at_ i q ss a b; ⟨ps,s _ _ h1,h2.tp (Tp.of s)⟩⟩
theorem Tp.but {H H':Hp} {t:Addr} {zs:List V} (b:But t H H') (ht:H t=some (.lst zs)):Tp H H':=fun p xs h=>b p _ (fun z=>by rw [z,ht] at h; cases h) h
theorem WaysAt.but {H H':Hp} {qs:List Addr} {Ws:List (List (Nat×Int×Int))} {t:Addr} {zs:List V} (h:WaysAt H qs Ws) (b:But t H H') (ht:H t=some (.lst zs)) (hn:∀ q∈qs,q≠t):WaysAt H' qs Ws:=⟨h.len,fun i q ss a e=>let ⟨ps,h1,h2⟩:=h.at_ i q ss a e; ⟨ps,b _ _ (hn q (Qe a)) h1,h2.tp (Tp.but b ht)⟩⟩
theorem WaysAt.snoc {H:Hp} {qs:List Addr} {Ws:List (List (Nat×Int×Int))} {q:Addr} {ps:List Addr} {ss:List (Nat×Int×Int)} (h:WaysAt H qs Ws) (h1:H q=some (.lst (ps.map V.ref))) (h2:StepsAt H ps ss):WaysAt H (qs++[q]) (Ws++[ss]):=by
 refine ⟨by rw [Qk,Qk,h.len]; rfl,fun i q' ss' a b=>?_⟩
 by_cases hi:i < qs.length
 ·rw [Qs hi] at a
  rw [Qs (by rw [<- h.len]; exact hi)] at b
  exact h.at_ i q' ss' a b
 ·rw [Qw (by omega)] at a
  rw [Qw (by rw [<- h.len]; omega)] at b
  have hlt:=(Qd.mp a).1
  have e0:i - qs.length=0:=by simp at hlt; omega
  rw [e0] at a
  rw [<- h.len,e0] at b
  have ea:q=q':=by simpa using a
  have eb:ss=ss':=by simpa using b
  subst ea; subst eb
  exact ⟨ps,h1,h2⟩
def aER (n:Int) (ws:List (List Int)) (hs:List Int) (H':Hp) (p:Addr):Prop :=
 ∃ wl dl qs Ws he lv,H' p=some (.tup [.ref wl,.ref dl])/\H' wl=some (.lst (qs.map V.ref))/\WaysAt H' qs Ws/\Ws.length<=864/\H' dl=some (.tup (he.map V.int))/\nI n ws hs Ws he/\gJ n ws he lv
section
variable {P:Program} {w:World} {K:PySem.W.Frag} {mg:Str->Option Value} {base:Heap}
def rQ (K:PySem.W.Frag) (Pt:Addr):Sp:=fun vs H Q _=>∃ x y n ws hs,vs = [x,y]/\dM K H x y n ws hs/\H Pt=some (.tab xD)/\∀ p H',aE H H'->aER n ws hs H' p->Q (.ref p) H'
theorem dM.but {H H':Hp} {x y:V} {n:Int} {ws:List (List Int)} {hs:List Int} {t:Addr} {zs:List V} (g:dM K H x y n ws hs) (b:But t H H') (ht:H t=some (.lst zs)):dM K H' x y n ws hs:=⟨b.den ht _ _ (oO n ws) g.1,g.2.1,b.den ht _ _ (wR hs) g.2.2.1,g.2.2.2⟩
theorem dM.edge {H:Hp} {x y:V} {n:Int} {ws:List (List Int)} {hs:List Int} (g:dM K H x y n ws hs):∀ a w t,dQ ws hs a w t->0<=t/\t < n:=fun a w t e=>by
 obtain ⟨_,_,hw12,hws⟩:=bC g.2.1
 obtain ⟨_,l,h1,h2,_⟩:=e
 exact (bL (hws l (Qe h1))).2.1 t h2
theorem dM.short {H:Hp} {x y:V} {n:Int} {ws:List (List Int)} {hs:List Int} {ss:List (Nat×Int×Int)} (g:dM K H x y n ws hs) (W:oR n ws hs ss):ss.length<=12:=by
 obtain ⟨hl12,hn1,hn6⟩:=g.len
 obtain ⟨h,xx,hne,hP,hN,hh0,hh1,hRL,hge⟩:=W
 have:=lE n.toNat (h::ss.map (·.2.2)) hN fun z hz=>by
  rcases Qm.mp hz with rfl | hz
  ·omega
  ·obtain ⟨s',hs',rfl⟩:=Jm.mp hz
   obtain ⟨i,hi⟩:=Qy.mp hs'
   have:=g.edge _ _ _ (lG hP i s' hi).1
   omega
 rw [Jv,Qb] at this
 omega
theorem dM.gone {H:Hp} {x y:V} {n:Int} {ws:List (List Int)} {hs:List Int} {ss:List (Nat×Int×Int)} (g:dM K H x y n ws hs) (W:oR n ws hs ss) {d:Addr} (hd:SqT K H d ((cW hs ss).map V.int)):dM K H x (.ref d) n ws (cW hs ss):=by
 obtain ⟨hdl,hdg⟩:=bF g.2.2.2
 obtain ⟨h,xx,hne,hP,_⟩:=W
 refine ⟨g.1,g.2.1,aP.mpr ⟨d,rfl,hd⟩,jR (by rw [oC]; exact hdl) (oE ss (fun s hs'=>?_) hdg)⟩
 obtain ⟨i,hi⟩:=Qy.mp hs'
 obtain ⟨⟨_,l,e2,e3,_⟩,_⟩:=lG hP i s hi
 exact ⟨l,e2,e3⟩
theorem fO:FnScope ["book", "deal", "ways", "word", "shown"] ["book", "deal"] (aF jA):=⟨rfl,rfl,rfl,by decide +kernel,rfl,by decide +kernel,by decide +kernel⟩
theorem xH {f fLw fG Pt:Addr} {fd dLw dG:FuncData} (G:Fn K mg "bettered" jA ["book", "deal"] f fd) (B:Bl mg)
  (GLw:Fn K mg "levels_or_way" aCv ["book", "deal"] fLw dLw) (OLw:FnOk P w K mg base CX0 8 fLw dLw ["book", "deal"] (aAz K Pt))
  (GG:Fn K mg "gone" aAl ["book", "deal", "some"] fG dG) (OG:FnOk P w K mg base CX0 9 fG dG ["book", "deal", "some"] (aCR K)):FnOk P w K mg base CX0 10 f fd ["book", "deal"] (rQ K Pt):=by
 refine G.fn.ok fO (fun vs H Q E h=>?_) (fun cdv A outer s H vs Q E hr h=>?_)
 ·obtain ⟨x,y,n,ws,hs,rfl,_⟩:=h
  rfl
 ·obtain ⟨x,y,n,ws,hs,rfl,g,hT,k⟩:=h
  have r9:Room 9 _:=hr
  have r8:Room 8 _:=hr.mono (by decide)
  refine ⟨_,(aD (aY (i:=2) fO.nd rfl (Or.inl rfl) (eM aB))
  (aD (iG (aT GLw OLw r8 rfl (aA (pv 0) (aA (pv 1) aB))) (eU rfl (aQ (aH (i:=3) fO.nd rfl (Or.inl rfl)) (aQ (aH (i:=4) fO.nd rfl (Or.inl rfl)) cH))))
  (aD (pJ PassesOwn.never (bB lI (pv 3) xU (bE _))
   (aD (cQ (mG PySem.F.plainAttrs_list PySem.F.slot_list_append PySem.F.type_list_append gO (pv 2) (aA (pv 4) aB)))
  (aD (aY (i:=1) fO.nd rfl (Or.inl rfl) (aT GG OG r9 rfl (aA (pv 0) (aA (pv 1) (aA (pv 4) aB)))))
  (aG (iG (aT GLw OLw r8 rfl (aA (pv 0) (aA (pv 1) aB))) (eU rfl (aQ (aH (i:=3) fO.nd rfl (Or.inl rfl)) (aQ (aH (i:=4) fO.nd rfl (Or.inl rfl)) cH))))))))
  (aG (aO (gN (aA (pv 2) (aA (bQ bI rfl B.tuple bV (aA (bR (own:=["hand"]) (fr:=[]) (frn:=[]) (aV (aF jA) ["book", "deal", "ways", "word", "shown"] rfl rfl (by decide +kernel)) rfl (eL (pv 1))
    (fun _ _ _ _=>(aH (i:=0) (show (["hand"]:List Str).Nodup by decide +kernel) rfl (Or.inl rfl))) (fun _ _ _ _=>cA)
    (fun _ _ _ _=>(pv 0))) aB)) aB)))))))),?_⟩
  obtain ⟨hl12,hn1,hn6⟩:=g.len
  obtain ⟨c0,rfl,_⟩:=aP.mp g.2.2.1
  refine ⟨cV (Jo _),fun wl hwl=>?_⟩
  have s0:=aE.new (o:=.lst []) hwl
  have e0:upd H wl (.lst []) wl=some (.lst []):=aC
  generalize upd H wl (.lst [])=H0 at s0 e0 ⊢
  refine ⟨_,rfl,_,rfl,x,.ref c0,n,ws,hs,rfl,g.same s0,s0 _ _ hT,fun p1 H1 s1 TD=>?_⟩
  obtain ⟨W,hW⟩:∃ W:Nat->St->Hp->Prop,W=fun m σ H1=>∃ (d q:Addr) (hc:List Int) (Ws:List (List (Nat×Int×Int))) (qs:List Addr) (word:Str),σ = [some x,some (.ref d),some (.ref wl),some (.str word),some (.ref q)]/\aE H H1/\dM K H1 x (.ref d) n ws hc/\H1 wl=some (.lst (qs.map V.ref))/\WaysAt H1 qs Ws/\(∀ z∈qs,z≠wl)/\nI n ws hs Ws hc/\Ws.length+Phi n.toNat hc<=864/\m=Phi n.toNat hc /\
    ((word = "levels" /\ ∃ lv,gJ n ws hc lv)∨(word = "way" /\ q≠wl/\∃ ps ss,H1 q=some (.lst (ps.map V.ref))/\StepsAt H1 ps ss/\oR n ws hc ss)):=⟨_,rfl⟩
  -- what is told is taken up
  have take:∀ (d p1:Addr) (hc:List Int) (Ws:List (List (Nat×Int×Int))) (qs:List Addr) (Ha Hb:Hp),aE H Ha->aE Ha Hb->dM K Ha x (.ref d) n ws hc->Ha wl=some (.lst (qs.map V.ref))->WaysAt Ha qs Ws->(∀ z∈qs,z≠wl)->nI n ws hs Ws hc->Ws.length+Phi n.toNat hc<=864->aFG n ws hc Ha Hb p1 ->
    ∃ word q,Hb p1=some (.tup [.str word,.ref q])/\W (Phi n.toNat hc) [some x,some (.ref d),some (.ref wl),some (.str word),some (.ref q)] Hb:=by
   intro d p1 hc Ws qs Ha Hb sa sb ga ea wa na ca la TD
   subst hW
   rcases TD with ⟨q,lv,h1,_,h2⟩ | ⟨q,ps,ss,h1,h2,h3,h4,h5⟩
   ·exact ⟨_,q,h1,d,q,hc,Ws,qs,_,rfl,sa.trans sb,ga.same sb,sb _ _ ea,wa.same sb,na,ca,la,rfl,.inl ⟨rfl,lv,h2⟩⟩
   ·exact ⟨_,q,h1,d,q,hc,Ws,qs,_,rfl,sa.trans sb,ga.same sb,sb _ _ ea,wa.same sb,na,ca,la,rfl,.inr ⟨rfl,(fun z=>by rw [z,ea] at h2; cases h2),ps,ss,h3,h4,h5⟩⟩
  obtain ⟨word,q,h1,w1⟩:=take c0 p1 hs [] [] H0 H1 s0 s1 (g.same s0) e0 ⟨rfl,fun i q ss a=>by simp at a⟩ (fun _ h=>(Qo h).elim) rfl (by have:=aEQ (n:=n.toNat) (hs:=hs) (by omega) hl12; simpa using this) TD
  refine ⟨p1,_,rfl,SqT.of h1,rfl,_,_,rfl,_,_,rfl,rfl,?_⟩
  refine ⟨W,⟨_,w1⟩,?_⟩
  intro m σ H2 w2
  have w2':=w2
  rw [hW] at w2'
  obtain ⟨d,q,hc,Ws,qs,word,rfl,s2,g2,e2,wa2,na2,ch2,le2,hm,alt⟩:=w2'
  refine ⟨_,rfl,rfl,_,rfl,?_⟩
  rcases alt with ⟨rfl,lv,hlv⟩ | ⟨rfl,nq,ps,ss,hq,hS,hWy⟩
  ·rw [decide_eq_false (show ¬ V.str "levels" = V.str "way" by intro z; injection z with z; revert z; decide)]
   refine eE ?_
   obtain ⟨c1,ec,hc1⟩:=aP.mp g2.2.2.1
   obtain rfl:d=c1:=by injection ec
   obtain ⟨hlc,_,_⟩:=g2.len
   refine ⟨_,rfl,_,rfl,d,rfl,⟨_,hc1⟩,mP (K:=K) (a:=d) (xs:=hc.map V.int) (vs:=hc.map V.int) (fun σ=>∃ v,σ = [v]) (by rw [Qb]; omega) rfl hc1 ⟨none,rfl⟩ ?_ ?_⟩
   ·rintro j xv v σ H3 hx hv ⟨v',rfl⟩ s3 Q' hQ'
    rw [hx] at hv
    obtain rfl:=Option.some.inj hv
    exact ⟨_,rfl,hQ' _ _ ⟨_,rfl⟩ (aE.refl _)⟩
   ·rintro H3 s3 z hz
    have s4:=aE.new (o:=.lst (hc.map V.int)) hz
    refine ⟨z,_,rfl,.inl ⟨SqL.of aC,fun dl hdl=>?_⟩⟩
    have s5:=aE.new (o:=.tup (hc.map V.int)) hdl
    refine ⟨sz2 _ _,fun p hp=>?_⟩
    have s6:=aE.new (o:=.tup [.ref wl,.ref dl]) hp
    have s36:=((s3.trans s4).trans s5).trans s6
    exact k p _ (s2.trans s36) ⟨wl,dl,qs,Ws,hc,lv,aC,s36 _ _ e2,wa2.same s36,by omega,s6 _ _ aC,ch2,hlv⟩
  ·rw [decide_eq_true rfl]
   refine gQ ?_
   refine ⟨fun σ' H'=>∃ m',m' < m/\W m' σ' H',fun _ _ z=>z,?_⟩
   have hql:(qs.map V.ref).length < sizeLine:=by rw [Qb,wa2.len]; exact Zs (show Ws.length<=864 by omega) (by rw [sizeLine_eq]; decide)
   refine ⟨_,rfl,.inl ⟨rfl,_,SqL.of e2⟩,_,rfl,wl,_,_,rfl,rfl,e2,hql,?_⟩
   have b3:But wl H2 (upd H2 wl (.lst (qs.map V.ref++[.ref q]))):=But.at
   have e3:upd H2 wl (.lst (qs.map V.ref++[.ref q])) wl=some (.lst ((qs++[q]).map V.ref)):=by rw [aC,Qx]; rfl
   have s3:aE H (upd H2 wl (.lst (qs.map V.ref++[.ref q]))):=s2.wr hwl
   have g3:=g2.but b3 e2
   have hq3:=b3 _ _ nq hq
   have hS3:=hS.tp (Tp.but b3 e2)
   have wa3:=(wa2.but b3 e2 na2).snoc hq3 hS3
   generalize upd H2 wl (.lst (qs.map V.ref++[.ref q]))=H3 at b3 e3 s3 g3 hq3 hS3 wa3 ⊢
   obtain ⟨h,xx,hne,hP,hN,hrest⟩:=id hWy
   have hsl:=g2.short hWy
   refine ⟨_,rfl,_,rfl,_,rfl,x,.ref d,q,ps.map V.ref,n,ws,hc,ss.map jX,rfl,⟨g3,SqL.of hq3,hS3.den,by rw [Qb]; omega,fun l hl=>?_⟩,aDT hne hP hN,fun d' H4 s4 hd' e4=>?_⟩
   ·obtain ⟨s',_,rfl⟩:=Jm.mp hl
    exact (show 3<=1000 by decide)
   rw [aAC] at e4
   have g4:=(g3.same s4).gone hWy (SqT.of e4)
   have hless:=aCT hWy g2.edge
   refine ⟨_,rfl,_,rfl,x,.ref d',n,ws,cW hc ss,rfl,g4,s4 _ _ (s3 _ _ hT),fun p5 H5 s5 TD5=>?_⟩
   obtain ⟨word,q',h5,w5⟩:=take d' p5 (cW hc ss) (Ws++[ss]) (qs++[q]) H4 H5 (s3.trans s4) s5 g4 (s4 _ _ e3) (wa3.same s4) (fun z hz=>by
    rcases Jk.mp hz with hz | hz
    ·exact na2 z hz
    ·rw [Qu.mp hz]; exact nq) (ch2.snoc hWy) (by rw [Qk]; show Ws.length+1+_<=864; omega) TD5
   refine ⟨p5,_,rfl,SqT.of h5,rfl,_,_,rfl,_,_,rfl,rfl,?_⟩
   exact ⟨_,by omega,w5⟩
end
theorem zI (l:List Int) (x:Int):aM (l++[x])=aM l+x:=by
 unfold L2.aM
 induction l with
 | nil=>simp
 | cons a r ih=>rw [Ya,Yg,Yg,ih,Int.add_assoc]
def jV (a b:List Int):Bool:=(List.range (a.length+1)).all fun k=>decide (aM (a.take k)<=aM (b.take k))
theorem xI {a b:List Int} (h:∀ k,k<=a.length->aM (a.take k)<=aM (b.take k)):jV a b=true:=by
 unfold jV
 rw [Jd]
 intro k hk
 have:=Jr.mp hk
 exact decide_eq_true (h k (by omega))
theorem lY {l:List Int} {i:Nat} {x:Int} (h:l[i]?=some x):aM (l.take (i+1))=aM (l.take i)+x:=by
 rw [Jh,h]
 exact zI _ _
section
variable {X:Cx} {K:PySem.W.Frag}
end
section
variable {P:Program} {w:World} {K:PySem.W.Frag} {mg:Str->Option Value} {base:Heap}
variable {fW fH fK fB fNB fD fND fL:Addr} {dW dH dK dB dNB dD dND dL:FuncData}
def tV (K:PySem.W.Frag):Sp:=fun vs H Q _=>∃ x y n ws hs,vs = [x,y]/\dM K H x y n ws hs/\∀ p H' (ms:List Int),aE H H'->H p=none->H' p=some (.lst (ms.map V.int))->ms.Perm (aL n hs)->ms.Pairwise (·≥·)->Q (.ref p) H'
theorem aBv:FnScope ["book", "deal"] ["book", "deal"] (aF mT):=⟨rfl,rfl,rfl,by decide +kernel,rfl,by decide +kernel,by decide +kernel⟩
theorem zJ {f:Addr} {fd:FuncData} (G:Fn K mg "falling" mT ["book", "deal"] f fd) (B:Bl mg) (R:Pr K mg fW fH fK fB fNB fD fND fL dW dH dK dB dNB dD dND dL):FnOk P w K mg base CX0 8 f fd ["book", "deal"] (tV K):=by
 have OL:FnOk P w K mg base CX0 7 fL dL ["book", "deal"] (pD K):=qT B R
 refine G.fn.ok aBv (fun vs H Q E h=>?_) (fun cdv A outer s H vs Q E hr h=>?_)
 ·obtain ⟨x,y,n,ws,hs,rfl,_⟩:=h
  rfl
 ·obtain ⟨x,y,n,ws,hs,rfl,g,k⟩:=h
  refine ⟨_,aG (aO (sD rfl B.sorted (aT R.L OL hr rfl (aA (pv 0) (aA (pv 1) aB))))),?_⟩
  obtain ⟨hl,hn1,hn6⟩:=g.len
  refine ⟨_,rfl,_,rfl,x,y,n,ws,hs,rfl,g,fun p H1 s1 hp=>?_⟩
  refine ⟨p,aL n hs,rfl,.inr (SqT.of hp),by rw [bJ]; omega,fun q ms hq hpm hpw=>?_⟩
  exact k q _ ms (s1.trans (aE.new hq)) (s1.free hq) aC hpm hpw
def aAD (K:PySem.W.Frag):Sp:=fun vs H Q _=>∃ x y n ws hs,vs = [x,y]/\dM K H x y n ws hs/\∀ H',aE H H'->Q (.int (qS n hs)) H'
theorem aDU:FnScope ["book", "deal"] ["book", "deal"] (aF qK):=⟨rfl,rfl,rfl,by decide +kernel,rfl,by decide +kernel,by decide +kernel⟩
theorem aCU {f:Addr} {fd:FuncData} (G:Fn K mg "waits" qK ["book", "deal"] f fd) (B:Bl mg) (R:Pr K mg fW fH fK fB fNB fD fND fL dW dH dK dB dNB dD dND dL):FnOk P w K mg base CX0 8 f fd ["book", "deal"] (aAD K):=by
 have OL:FnOk P w K mg base CX0 7 fL dL ["book", "deal"] (pD K):=qT B R
 refine G.fn.ok aDU (fun vs H Q E h=>?_) (fun cdv A outer s H vs Q E hr h=>?_)
 ·obtain ⟨x,y,n,ws,hs,rfl,_⟩:=h
  rfl
 ·obtain ⟨x,y,n,ws,hs,rfl,g,k⟩:=h
  refine ⟨_,aG (aO (aK (pR rfl) rfl B.sum wQ (aA
    (bR (own:=["load"]) (fr:=[]) (frn:=[]) (aV (aF qK) ["book", "deal"] rfl rfl (by decide +kernel)) rfl (eL (aT R.L OL hr rfl (aA (pv 0) (aA (pv 1) aB))))
     (fun _ _ _ _=>aH (i:=0) (show (["load"]:List Str).Nodup by decide +kernel) rfl (Or.inl rfl)) (fun _ _ _ _=>cA)
     (fun _ _ _ _=>cL zU (cL nN (pv 0) (cL iH (pv 0) aJ)) aJ)) aB))),?_⟩
  obtain ⟨hl,hn1,hn6⟩:=g.len
  refine ⟨_,rfl,_,rfl,x,y,n,ws,hs,rfl,g,fun p H1 s1 hp=>?_⟩
  refine ⟨p,rfl,⟨_,SqT.of hp⟩,gY (K:=K) (a:=p) (xs:=(aL n hs).map V.int) (fun σ=>∃ v,σ = [v]) (fun i zs H2=>H2=H1/\zs=(((aL n hs).take i).map fun l=>l*(l+1) / 2).map V.int) ?_ ⟨none,rfl⟩ ⟨rfl,rfl⟩ ?_ ?_ ?_ ?_⟩
  ·rw [Qb,bJ,sizeLine_eq]; omega
  ·rintro i zs H2 ⟨_,rfl⟩
   rw [Qb,Qb,Ja]; omega
  ·rintro i zs H2 ⟨rfl,_⟩
   exact SqT.of hp
  ·rintro i zs σ x H2 hx ⟨v,rfl⟩ ⟨rfl,rfl⟩ hz
   rw [Qg] at hx
   obtain ⟨l,hli,rfl⟩:∃ l,(aL n hs)[i]?=some l/\V.int l=x:=by
    cases q:(aL n hs)[i]? with
    | none=>rw [q] at hx; cases hx
    | some l=>rw [q] at hx; exact ⟨l,rfl,Option.some.inj hx⟩
   have hb:=iC (Qe hli)
   refine bK ?_
   refine ⟨_,rfl,_,rfl,_,_,rfl,rfl,_,_,rfl,rfl,.inl ⟨by omega,by omega⟩,_,_,rfl,rfl,⟨by decide,by decide⟩,hz,⟨_,rfl⟩,rfl,?_⟩
   rw [Jh,hli]
   simp
  ·rintro zs H2 ⟨rfl,rfl⟩ q hq
   refine ⟨q,_,rfl,SqL.of aC,fun m hm=>?_,?_,?_⟩
   ·obtain ⟨l,hl2,rfl⟩:=Jm.mp hm
    have hb:=iC (Xb hl2)
    have h0:0<=l*(l+1):=Int.mul_nonneg hb.1 (by omega)
    have h1:l*(l+1)<=12*13:=Int.mul_le_mul (by omega) (by omega) (by omega) (by omega)
    omega
   ·rw [Qb,Ja,bJ]; omega
   ·have e:((aL n hs).take ((aL n hs).map V.int).length)=aL n hs:=by rw [Qb,Js]
    rw [e]
    exact k _ (s1.trans (aE.new hq))
end
theorem iE:∀ (a b:List Int),aM (a++b)=aM a+aM b
 | [],b=>by rw [Zb,show aM ([]:List Int)=0 from rfl,Xp]
 | x::a,b=>by
  show x+aM (a++b)=x+aM a+aM b
  rw [iE a b]; omega
theorem rR {a b:List Int} (h:a.Perm b):aM a=aM b:=by
 induction h with
 | nil=>rfl
 | cons x _ ih=>exact congrArg (x + ·) ih
 | swap x y l=>show y+(x+aM l)=x+(y+aM l); omega
 | trans _ _ h1 h2=>exact h1.trans h2
theorem nJ {α:Type} {f g:α->Int}:∀ {l:List α},(∀ x∈l,f x<=g x)->aM (l.map f)<=aM (l.map g)
 | [],_=>Jq _
 | x::l,h=>by
  show f x+aM (l.map f)<=g x+aM (l.map g)
  have h1:=h x (Qq ..)
  have h2:=nJ (l:=l) (f:=f) (g:=g) fun y hy=>h y (Qr _ hy)
  omega
theorem hG {α:Type} {f g:α->Int} {l:List α} (h:∀ x∈l,f x=g x):aM (l.map f)=aM (l.map g):=by
 rw [Yi h]
theorem eS {α:Type} (f g:α->Int):∀ (l:List α),aM (l.map fun x=>f x+g x)=aM (l.map f)+aM (l.map g)
 | []=>rfl
 | x::l=>by
  show f x+g x+aM (l.map fun x=>f x+g x)=f x+aM (l.map f)+(g x+aM (l.map g))
  rw [eS f g l]; omega
theorem gS {α:Type} {f:α->Int}:∀ {l:List α},(∀ x∈l,f x=0)->aM (l.map f)=0
 | [],_=>rfl
 | x::l,h=>by
  show f x+aM (l.map f)=0
  rw [h x (Qq ..),gS fun y hy=>h y (Qr _ hy)]; rfl
def ex (t:Int) (l:List Int):Int:=aM (l.map fun x=>max (x - t) 0)
theorem tW (t:Int):∀ l:List Int,0<=ex t l
 | []=>Jq _
 | x::l=>by
  show 0<=max (x - t) 0+ex t l
  have:=tW t l
  omega
theorem aAE {t:Int} {a b:List Int} (h:a.Perm b):ex t a=ex t b:=rR (h.map _)
theorem xJ (t:Int) (l:List Int) (k:Nat):ex t l=ex t (l.take k)+ex t (l.drop k):=by
 unfold ex
 rw [<- iE,<- Qx,Zy]
theorem aCV (t:Int):∀ l:List Int,aM l<=l.length*t+ex t l
 | []=>by show (0:Int)<=_; rw [List.length_nil]; show (0:Int)<=0*t+0; omega
 | x::l=>by
  have h:=aCV t l
  show x+aM l<=((l.length+1:Nat):Int)*t+(max (x - t) 0+ex t l)
  have e:((l.length+1:Nat):Int)*t=(l.length:Int)*t+t:=by rw [Xn,Wz]; simp
  rw [e]
  generalize (l.length:Int)*t=z at h
  omega
theorem aCW {t:Int}:∀ {l:List Int},(∀ x∈l,t<=x)->l.length*t+ex t l=aM l
 | [],_=>by show (0:Int)*t+0=0; omega
 | x::l,h=>by
  have h1:=aCW (t:=t) (l:=l) fun y hy=>h y (Qr _ hy)
  have h2:=h x (Qq ..)
  show ((l.length+1:Nat):Int)*t+(max (x - t) 0+ex t l)=x+aM l
  have e:((l.length+1:Nat):Int)*t=(l.length:Int)*t+t:=by rw [Xn,Wz]; simp
  rw [e]
  generalize (l.length:Int)*t=z at h1
  omega
theorem aDV {t:Int} {l:List Int} (h:∀ x∈l,x<=t):ex t l=0:=gS fun x hx=>by have:=h x hx; omega
theorem zK {a b ms ys:List Int} (hl:a.length=b.length) (h:∀ t,ex t a<=ex t b) (hm:ms.Perm a) (hy:ys.Perm b) (sy:ys.Pairwise (·≥·)) (k:Nat) (hk:k<=ms.length):aM (ms.take k)<=aM (ys.take k):=by
 cases k with
 | zero=>rw [Zh,Zh]; exact Jq _
 | succ k =>
  have hyl:ys.length=ms.length:=by rw [hy.length_eq,hm.length_eq,hl]
  have hlt:k < ys.length:=by omega
  have hd:=Zy (k+1) ys
  have hall:∀ i j,i<=j->∀ x y,ys[i]?=some x->ys[j]?=some y->y<=x:=fun i j hij x y ea eb=>by
   rcases Wd i j with h | h
   ·obtain ⟨hi,rfl⟩:=Qd.mp ea
    obtain ⟨hj,rfl⟩:=Qd.mp eb
    exact Zi.mp sy i j hi hj h
   ·have:=Nat.le_antisymm hij h
    subst this
    rw [ea] at eb
    rw [Option.some.inj eb]; exact Jq _
  have et:ys[k]?=some ys[k]:=Qc hlt
  generalize ys[k]=t at et
  have h1:∀ x∈ys.take (k+1),t<=x:=fun x hx=>by
   obtain ⟨i,hi⟩:=Qy.mp hx
   have hik:i < k+1:=by have:=(Qd.mp hi).1; rw [Ja] at this; omega
   rw [Yr,if_pos hik] at hi
   exact hall i k (by omega) x t hi et
  have h2:∀ x∈ys.drop (k+1),x<=t:=fun x hx=>by
   obtain ⟨i,hi⟩:=Qy.mp hx
   rw [Yp] at hi
   exact hall k (k+1+i) (by omega) t x et hi
  have e1:=aCV t (ms.take (k+1))
  have e2:=aCW h1
  have e3:=xJ t ms (k+1)
  have e4:=xJ t ys (k+1)
  have e5:=aDV h2
  have e6:=tW t (ms.drop (k+1))
  have e7:=h t
  rw [<- aAE hm,<- aAE hy] at e7
  have l1:(ms.take (k+1)).length=(ys.take (k+1)).length:=by rw [Ja,Ja]; omega
  rw [l1] at e1
  omega
theorem nK {a b ms ys:List Int} (hl:a.length=b.length) (h:∀ t,ex t a<=ex t b) (hm:ms.Perm a) (hy:ys.Perm b) (sy:ys.Pairwise (·≥·)):jV ms ys=true:=xI fun k hk=>zK hl h hm hy sy k hk
def inS (p:Int->Bool) (hs:List Int):Int:=aM (hs.map fun h=>if p h then 1 else 0)
theorem zL {p:Int->Bool}:∀ {hs hs':List Int},hs.length=hs'.length->(∀ (i:Nat) g t,hs[i]?=some g->hs'[i]?=some t->p g=true->p t=true)->inS p hs<=inS p hs'
 | [],[],_,_=>Jq _
 | g::hs,t::hs',hl,h=>by
  have h1:=zL (p:=p) (hs:=hs) (hs':=hs') (by simpa using hl) fun i a b ha hb=>h (i+1) a b (by simpa using ha) (by simpa using hb)
  have h2:=h 0 g t rfl rfl
  show (if p g then (1:Int) else 0)+inS p hs<=(if p t then (1:Int) else 0)+inS p hs'
  cases hg:p g with
  | false =>
   simp only [Xz,if_false]
   split <;> omega
  | true =>
   rw [h2 hg]
   simp only [if_true]
   omega
 | [],_::_,hl,_=>by simp at hl
 | _::_,[],hl,_=>by simp at hl
theorem aDW {m:Nat} {h:Int} (p:Int->Bool) (h0:0<=h) (h1:h < m):aM ((cZ m).map fun i=>if p i then (if h=i then 1 else 0) else 0)=if p h then 1 else 0:=by
 induction m with
 | zero=>omega
 | succ m ih =>
  have e:cZ (m+1)=cZ m++[(m:Int)]:=by unfold cZ; rw [List.range_succ,Qx]; rfl
  rw [e,Qx,iE]
  show _+((if p (m:Int) then (if h=(m:Int) then (1:Int) else 0) else 0)+0)=_
  by_cases hm:h=(m:Int)
  ·rw [gS (l:=cZ m) (f:=fun i=>if p i then (if h=i then 1 else 0) else 0) fun x hx=>by
    unfold cZ at hx
    obtain ⟨i,hi,rfl⟩:=Jm.mp hx
    have hi':=Jr.mp hi
    rw [if_neg (show ¬ h=((i:Nat):Int) by omega)]
    split <;> rfl]
   rw [if_pos hm,hm]
   omega
  ·rw [ih (by omega),if_neg hm]
   have:(if p (m:Int)=true then (0:Int) else 0)=0:=by split <;> rfl
   rw [this]
   omega
theorem jF {n:Int} (p:Int->Bool):∀ {hs:List Int},(∀ h∈hs,0<=h/\h < n)->aM ((cZ n.toNat).map fun h=>if p h then ((hs.count h:Nat):Int) else 0)=inS p hs
 | [],_=>by
  show _=(0:Int)
  exact gS fun x _=>by
   rw [Yu]
   split <;> rfl
 | h::hs,hh=>by
  have ih:=jF (n:=n) p (hs:=hs) fun x hx=>hh x (Qr _ hx)
  have hb:=hh h (Qq ..)
  have e1:=aDW (m:=n.toNat) p hb.1 (by omega)
  show _=(if p h then (1:Int) else 0)+inS p hs
  rw [<- ih,<- e1,<- eS]
  refine hG fun i _=>?_
  rw [Xo]
  by_cases hp:p i=true
  ·rw [if_pos hp,if_pos hp,if_pos hp]
   by_cases hi:h=i
   ·rw [if_pos hi,if_pos (by rw [hi]; simp)]; omega
   ·rw [if_neg hi,if_neg (by simpa using hi)]; omega
  ·rw [if_neg hp,if_neg hp,if_neg hp]; rfl
theorem aBw {n:Int} {ws:List (List Int)} {hs hs' lv:List Int} (L:gJ n ws hs lv) (hr:∀ h∈hs,0<=h/\h < n) (hr':∀ h∈hs',0<=h/\h < n) (hl:hs.length=hs'.length)
  (ha:∀ (i:Nat) t,hs'[i]?=some t->∃ l,ws[i]?=some l/\t∈l) (t:Int):ex t (aL n hs)<=ex t (aL n hs'):=by
 obtain ⟨hlv,hL⟩:=L
 have at_:∀ h:Int,0<=h->h < n->∃ v,lv[h.toNat]?=some v/\nH ws hs n.toNat h v/\((hs.count h:Nat):Int) - v < 2:=fun h h0 h1=>by
  have hlt:h.toNat < lv.length:=by omega
  have e:=Qc hlt
  obtain ⟨m1,m2⟩:=hL _ _ e
  rw [show ((h.toNat:Nat):Int)=h by omega] at m1 m2
  exact ⟨_,e,m1,m2⟩
 let p:Int->Bool:=fun h=>decide (t<=lv.getD h.toNat 0)
 have pv:∀ h v,lv[h.toNat]?=some v->p h=decide (t<=v):=fun h v e=>by
  show decide (t<=lv.getD h.toNat 0)=_
  rw [Qn,e]; rfl
 have up:∀ x∈cZ n.toNat,0<=x/\x < n:=fun x hx=>by
  unfold cZ at hx
  obtain ⟨i,hi,rfl⟩:=Jm.mp hx
  have:=Jr.mp hi
  omega
 have e1:ex t (aL n hs)=aM ((cZ n.toNat).map fun h=>if p h then ((hs.count h:Nat):Int) else 0)+aM ((cZ n.toNat).map fun h=>if p h then -t else 0):=by
  unfold ex aL
  rw [Zp,<- eS]
  refine hG fun h hh=>?_
  obtain ⟨h0,h1⟩:=up h hh
  obtain ⟨v,ev,mv,dv⟩:=at_ h h0 h1
  have lev:=mv.le
  show max (((hs.count h:Nat):Int) - t) 0=_
  rw [pv h v ev]
  by_cases hp:t<=v
  ·rw [decide_eq_true hp,if_pos rfl,if_pos rfl]; omega
  ·rw [decide_eq_false hp,if_neg Qv,if_neg Qv]; omega
 have e2:aM ((cZ n.toNat).map fun h=>if p h then ((hs'.count h:Nat):Int) else 0)+aM ((cZ n.toNat).map fun h=>if p h then -t else 0)<=ex t (aL n hs'):=by
  unfold ex aL
  rw [Zp,<- eS]
  refine nJ fun h hh=>?_
  show _<=max (((hs'.count h:Nat):Int) - t) 0
  split <;> omega
 have e3:inS p hs<=inS p hs':=by
  refine zL hl fun i g u hg hu hpg=>?_
  obtain ⟨l,el,hul⟩:=ha i u hu
  have gb:=hr g (Qe hg)
  have ub:=hr' u (Qe hu)
  obtain ⟨vg,evg,mg,_⟩:=at_ g gb.1 gb.2
  obtain ⟨vu,evu,mu,_⟩:=at_ u ub.1 ub.2
  rw [pv g vg evg] at hpg
  rw [pv u vu evu]
  have hle:vg<=vu:=by
   by_cases hgu:u=g
   ·subst hgu
    rw [evg] at evu
    rw [Option.some.inj evu]; exact Jq _
   ·exact mg.edge mu (w:=i) ⟨hg,l,el,hul,hgu⟩
  exact decide_eq_true (Zq (of_decide_eq_true hpg) hle)
 rw [jF p hr] at e1
 rw [jF p hr'] at e2
 omega
end Ab
namespace Ab
open L2
theorem jG {n:Int} {ws:List (List Int)} {hs:List Int} (hb:cG (bY n ws)=true) (hd:cR ws (cM hs)=true):∀ h∈hs,0<=h/\h < n:=fun h hh=>by
 obtain ⟨_,_,_,hws⟩:=bC hb
 obtain ⟨hl,hm⟩:=bF hd
 obtain ⟨i,hi⟩:=Qy.mp hh
 have hlt:i < ws.length:=by rw [<- hl]; exact (Qd.mp hi).1
 have e:=Qc hlt
 exact (bL (hws _ (Qe e))).2.1 h (hm i h _ hi e)
theorem zM {n:Int} {ws:List (List Int)} {hs hs' lv:List Int} (hb:cG (bY n ws)=true) (hd:cR ws (cM hs)=true) (hd':cR ws (cM hs')=true) (L:gJ n ws hs lv) (t:Int):ex t (aL n hs)<=ex t (aL n hs'):=by
 obtain ⟨hl,hm⟩:=bF hd
 obtain ⟨hl',hm'⟩:=bF hd'
 refine aBw L (jG hb hd) (jG hb hd') (by omega) (fun i u hu=>?_) t
 have hlt:i < ws.length:=by rw [<- hl']; exact (Qd.mp hu).1
 have e:=Qc hlt
 exact ⟨_,e,hm' i u _ hu e⟩
theorem rS:∀ {a b:List Int},a.length=b.length->(∀ k,k<=a.length->aM (a.take k)=aM (b.take k))->a=b
 | [],[],_,_=>rfl
 | [],_::_,hl,_=>by simp at hl
 | _::_,[],hl,_=>by simp at hl
 | x::a,y::b,hl,h=>by
  have h1:x+0=y+0:=h 1 (by simp)
  have e:x=y:=by omega
  subst e
  refine congrArg _ (rS (by simpa using hl) fun k hk=>?_)
  have h2:x+aM (a.take k)=x+aM (b.take k):=h (k+1) (by simpa using hk)
  omega
theorem rT {a b:List Int} (h:jV a b=true) (k:Nat) (hk:k<=a.length):aM (a.take k)<=aM (b.take k):=by
 unfold jV at h
 exact of_decide_eq_true (Jd.mp h k (Jr.mpr (by omega)))
theorem aBx {a b:List Int} (hl:a.length=b.length) (h1:jV a b=true) (h2:jV b a=true):a=b :=
 rS hl fun k hk=>Int.le_antisymm (rT h1 k hk) (rT h2 k (by omega))
theorem zN {a b ms ys:List Int} (hl:a.length=b.length) (h1:∀ t,ex t a<=ex t b) (h2:∀ t,ex t b<=ex t a) (hm:ms.Perm a) (hy:ys.Perm b) (sm:ms.Pairwise (·≥·)) (sy:ys.Pairwise (·≥·)):ms=ys :=
 aBx (by rw [hm.length_eq,hy.length_eq,hl]) (nK hl h1 hm hy sy) (nK hl.symm h2 hy hm sm)
end Ab
namespace Ab
open PySem L2
theorem rV {n:Int} {ws:List (List Int)}:∀ {Ws:List (List (Nat×Int×Int))} {hs he:List Int},nI n ws hs Ws he->cR ws (cM hs)=true->cR ws (cM he)=true
 | [],hs,he,c,h=>by
  have e:hs=he:=c
  rw [<- e]; exact h
 | ss::Ws,hs,he,⟨W,c⟩,h=>by
  refine rV c ?_
  obtain ⟨hdl,hdg⟩:=bF h
  obtain ⟨h0,xx,hne,hP,_⟩:=W
  refine jR (by rw [oC]; exact hdl) (oE ss (fun s hs'=>?_) hdg)
  obtain ⟨i,hi⟩:=Qy.mp hs'
  obtain ⟨⟨_,l,e2,e3,_⟩,_⟩:=lG hP i s hi
  exact ⟨l,e2,e3⟩
theorem sP {n:Int} {ws:List (List Int)} {hs lv:List Int} {ss:List (Nat×Int×Int)} (L:gJ n ws hs lv) (W:oR n ws hs ss):False:=by
 obtain ⟨h,x,hne,hP,hN,h0,h1,hRL,hge⟩:=W
 have hlt:h.toNat < lv.length:=by rw [L.1]; omega
 obtain ⟨m1,m2⟩:=L.2 h.toNat _ (Qc hlt)
 rw [show ((h.toNat:Nat):Int)=h by omega] at m1 m2
 have:=m1.2 _ x hRL
 omega
section
variable {P:Program} {w:World} {K:PySem.W.Frag} {mg:Str->Option Value} {base:Heap}
variable {fW fH fK fB fNB fD fND fL:Addr} {dW dH dK dB dNB dD dND dL:FuncData}
def tX (K:PySem.W.Frag) (Pt:Addr):Sp:=fun vs H Q _=>∃ (x:V) (n:Int) (ws:List (List Int)),vs = [x]/\Den K H (bY n ws) x/\cG (bY n ws)=true/\H Pt=some (.tab xD) /\
 ∀ (p dp lp:Addr) (hs lv:List Int) H',aE H H'->H' p=some (.tup [.ref dp,.ref lp])->H' dp=some (.tup (hs.map V.int))->cR ws (cM hs)=true->H' lp=some (.tup (lv.map V.int))->gJ n ws hs lv->Q (.ref p) H'
theorem oF:FnScope ["book", "ways", "deal"] ["book"] (aF kL):=⟨rfl,rfl,rfl,by decide +kernel,rfl,by decide +kernel,by decide +kernel⟩
theorem zO {f fBt fLw Pt:Addr} {fd dBt dLw:FuncData} (G:Fn K mg "evenest" kL ["book"] f fd) (B:Bl mg) (R:Pr K mg fW fH fK fB fNB fD fND fL dW dH dK dB dNB dD dND dL)
  (GBt:Fn K mg "bettered" jA ["book", "deal"] fBt dBt) (OBt:FnOk P w K mg base CX0 10 fBt dBt ["book", "deal"] (rQ K Pt)) (GLw:Fn K mg "levels_or_way" aCv ["book", "deal"] fLw dLw) (OLw:FnOk P w K mg base CX0 8 fLw dLw ["book", "deal"] (aAz K Pt)):FnOk P w K mg base CX0 11 f fd ["book"] (tX K Pt):=by
 have ONB:FnOk P w K mg base CX0 4 fNB dNB ["book"] (pC K):=qR B R
 refine G.fn.ok oF (fun vs H Q E h=>?_) (fun cdv A outer s H vs Q E hr h=>?_)
 ·obtain ⟨x,n,ws,rfl,_⟩:=h
  rfl
 ·obtain ⟨x,n,ws,rfl,hx,hbk,hT,k⟩:=h
  have r4:Room 4 _:=hr.mono (by decide)
  have r8:Room 8 _:=hr.mono (by decide)
  have r10:Room 10 _:=hr
  refine ⟨_,(aD (cQ (aT R.NB ONB r4 rfl (aA (pv 0) aB)))
  (aD (iG (aT GBt OBt r10 rfl (aA (pv 0) (aA (bQ bI rfl B.tuple bV (aA (bR (own:=["able"]) (fr:=[]) (frn:=[]) (aV (aF kL) ["book", "ways", "deal"] rfl rfl (by decide +kernel)) rfl (eL (aU aZ (pv 0) aJ (fun _ _=>rfl)))
    (fun _ _ _ _=>(aH (i:=0) (show (["able"]:List Str).Nodup by decide +kernel) rfl (Or.inl rfl))) (fun _ _ _ _=>cA)
    (fun _ _ _ _=>(aU (eD (K:=K) rfl) (pv 0) aJ (fun _ _=>rfl)))) aB)) aB))) (eU rfl (aQ (aH (i:=1) oF.nd rfl (Or.inl rfl)) (aQ (aH (i:=2) oF.nd rfl (Or.inl rfl)) cH))))
  (aG (aO (gN (aA (pv 2) (aA (aU aZ (aT GLw OLw r8 rfl (aA (pv 0) (aA (pv 2) aB))) aJ (fun _ _=>rfl)) aB))))))),?_⟩
  obtain ⟨hn1,hn6,hw12,hws⟩:=bC hbk
  refine ⟨_,rfl,x,bY n ws,rfl,hx,hbk,fun H1 s1=>?_⟩
  have hx1:=s1.den _ _ hx
  obtain ⟨a,b,ys,rfl,ha,hb2,hys⟩:=bS hx1
  have hlw:=aN hys
  rw [Qb] at hlw
  refine ⟨_,rfl,_,rfl,a,_,1,.ref b,rfl,rfl,ha,rfl,b,rfl,⟨_,hb2⟩,gY (K:=K) (a:=b) (xs:=ys) (fun σ=>∃ v,σ = [v]) (fun i zs H2=>H2=H1/\zs=((ws.take i).map fun l=>l.headD 0).map V.int) (cV (by omega)) ⟨none,rfl⟩ ⟨rfl,rfl⟩ (fun i zs H2 z=>by rw [z.2,Qb,Qb,Ja]; omega) (fun i zs H2 z=>by rw [z.1]; exact hb2) ?_ ?_⟩
  ·rintro i zs σ u H2 hu ⟨v,rfl⟩ ⟨rfl,rfl⟩ hz
   obtain ⟨dv,hdv,denv⟩:=cC hys hu
   rw [Qg] at hdv
   obtain ⟨l,hl,rfl⟩:∃ l,ws[i]?=some l/\bO l=dv:=by
    cases q:ws[i]? with
    | none=>rw [q] at hdv; cases hdv
    | some l=>rw [q] at hdv; exact ⟨l,rfl,Option.some.inj hdv⟩
   obtain ⟨aw,rfl,haw⟩:=aP.mp denv
   obtain ⟨l0,_,_⟩:=bL (hws l (Qe hl))
   have hat:atI (l.map V.int) 0=some (.int (l.headD 0)):=by
    cases l with
    | nil=>exact absurd rfl l0
    | cons y l=>exact cI (j:=0) rfl
   refine bK ?_
   refine ⟨_,rfl,aw,_,0,_,rfl,rfl,haw,hat,hz,⟨_,rfl⟩,rfl,?_⟩
   rw [Jh,hl,Qx,Qx]
   rfl
  ·rintro zs H2 ⟨rfl,rfl⟩ lq hlq
   rw [Jf (show ws.length<=ys.length by omega)]
   refine ⟨lq,_,rfl,.inl ⟨SqL.of aC,fun dq hdq=>?_⟩⟩
   have s3:=(aE.new (o:=.lst ((ws.map fun l=>l.headD 0).map V.int)) hlq).trans (aE.new (o:=.tup ((ws.map fun l=>l.headD 0).map V.int)) hdq)
   have d3:upd (upd H2 lq (.lst ((ws.map fun l=>l.headD 0).map V.int))) dq (.tup ((ws.map fun l=>l.headD 0).map V.int)) dq=some (.tup ((ws.map fun l=>l.headD 0).map V.int)):=aC
   generalize upd (upd H2 lq (.lst ((ws.map fun l=>l.headD 0).map V.int))) dq (.tup ((ws.map fun l=>l.headD 0).map V.int))=H3 at s3 d3 ⊢
   have hd0:cR ws (cM (ws.map fun l=>l.headD 0))=true:=jR (by rw [Qb]) fun j h l e1 e2=>by
    rw [Qg,e2] at e1
    have e:l.headD 0=h:=Option.some.inj e1
    obtain ⟨l0,_,_⟩:=bL (hws l (Qe e2))
    cases l with
    | nil=>exact absurd rfl l0
    | cons y l=>rw [<- e]; exact Qq ..
   have s13:=s1.trans s3
   have g3:dM K H3 (.ref a) (.ref dq) n ws (ws.map fun l=>l.headD 0):=⟨s3.den _ _ hx1,hbk,aP.mpr ⟨dq,rfl,SqT.of d3⟩,hd0⟩
   refine ⟨.ref a,.ref dq,n,ws,_,rfl,g3,s13 _ _ hT,fun p H4 s4 hp=>?_⟩
   obtain ⟨wl,dl,qs,Ws,he,lv,hp4,_,_,_,hdl,hch,hlv⟩:=hp
   refine ⟨p,_,rfl,SqT.of hp4,rfl,_,_,rfl,_,_,rfl,rfl,?_⟩
   have hde:=rV hch hd0
   have s14:=s13.trans s4
   have g4:dM K H4 (.ref a) (.ref dl) n ws he:=⟨(s3.trans s4).den _ _ hx1,hbk,aP.mpr ⟨dl,rfl,SqT.of hdl⟩,hde⟩
   refine ⟨_,rfl,_,rfl,_,rfl,.ref a,.ref dl,n,ws,he,rfl,g4,s14 _ _ hT,fun p2 H5 s5 hp2=>?_⟩
   rcases hp2 with ⟨lq2,lv2,e1,e2,e3⟩ | ⟨_,_,ss,_,_,_,_,hW⟩
   ·refine ⟨p2,_,1,.ref lq2,rfl,rfl,SqT.of e1,rfl,sz2 _ _,fun r hr'=>?_⟩
    have s6:=aE.new (o:=.tup [.ref dl,.ref lq2]) hr'
    exact k r dl lq2 he lv2 _ (s14.trans (s5.trans s6)) aC ((s5.trans s6) _ _ hdl) hde (s6 _ _ e2) e3
   ·exact (sP hlv hW).elim
end
end Ab
namespace Ab
open L2
def dY (cs:List (List Int)) (h:Int):List Int:=cs.getD h.toNat []
theorem mR {row:List Int} {i:Nat} (h:i < row.length):row.getD i 0=row[i]:=by
 rw [Qn,Qc h]; rfl
theorem oG {row:List Int} (hp:row.Pairwise (·<=·)) {i j:Nat} (h:i<=j) (hj:j < row.length):row.getD i 0<=row.getD j 0:=by
 rw [mR hj,mR (by omega)]
 rcases Wd i j with h1 | h1
 ·exact (Zi.mp hp) i j (by omega) hj h1
 ·obtain rfl:i=j:=by omega
  exact Jq _
theorem aEf {row:List Int} {l:Nat} (h:l < row.length):nxC row l=row.getD l 0:=by
 unfold nxC
 rw [Yh (by omega)]
theorem aDX {row:List Int} (hp:row.Pairwise (·<=·)) (l:Nat):nxC row l<=nxC row (l+1):=by
 unfold nxC
 cases row with
 | nil=>exact Jq _
 | cons x r =>
  have e:(x::r).length=r.length+1:=rfl
  exact oG hp (by omega) (by omega)
theorem kP {n:Int} {m:Nat} {cs:List (List Int)} (hc:cB n m cs) {h:Int} (h0:0<=h) (h1:h < n):nD m (dY cs h):=by
 unfold dY
 have hl:h.toNat < cs.length:=by rw [hc.1]; omega
 rw [Qn,Qc hl]
 exact hc.2 _ (Xg hl)
structure PrF (n:Int) (cs ws:List (List Int)) (hs:List Int) (p:Int->Int):Prop where
 lo:∀ h,0<=h->h < n->0 < hs.count h->(dY cs h).getD (hs.count h - 1) 0<=p h
 hi:∀ h,0<=h->h < n->p h<=nxC (dY cs h) (hs.count h)
 ed:∀ g w t,dQ ws hs g w t->p g<=p t
theorem PrF.nil (n:Int) (cs:List (List Int)):PrF n cs [] [] (fun h=>nxC (dY cs h) 0) :=
 ⟨fun h _ _ z=>by simp at z,fun h _ _=>by rw [Yu]; exact Jq _,fun g w t e=>by obtain ⟨z,_⟩:=e; simp at z⟩
theorem aAF:∀ (ss:List (Nat×Int×Int)) (hs:List Int) (w:Nat) (g:Int),(cW hs ss)[w]?=some g->(hs[w]?=some g/\∀ s∈ss,s.1≠w)∨∃ s∈ss,s.1=w/\s.2.2=g
 | [],hs,w,g,h=>.inl ⟨h,fun s z=>(Qo z).elim⟩
 | s::r,hs,w,g,h=>by
  rcases aAF r (hs.set s.1 s.2.2) w g h with ⟨h1,h2⟩ | ⟨s',m,e1,e2⟩
  ·by_cases e:s.1=w
   ·subst e
    rw [Xi] at h1
    rw [if_pos rfl] at h1
    split at h1
    ·exact .inr ⟨s,Qq ..,rfl,Option.some.inj h1⟩
    ·cases h1
   ·rw [Xi,if_neg e] at h1
    exact .inl ⟨h1,fun s' m=>by
     rcases Qm.mp m with rfl | m
     ·exact e
     ·exact h2 s' m⟩
  ·exact .inr ⟨s',Qr _ m,e1,e2⟩
theorem jW {ws:List (List Int)} {hs:List Int}:∀ {ss:List (Nat×Int×Int)} {h x:Int},cS ws hs h ss x->∀ s∈ss,dQ ws hs s.2.1 s.1 s.2.2
 | [],_,_,_,_,m=>(Qo m).elim
 | s::r,h,x,⟨e1,e2,e3⟩,s',m=>by
  rcases Qm.mp m with rfl | m
  ·rw [e1]; exact e2
  ·exact jW e3 s' m
theorem PrF.step {n:Int} {m:Nat} {cs ws:List (List Int)} {hs able os ms:List Int} {ss:List (Nat×Int×Int)} {last:Int} {p:Int->Int} (hc:cB n m cs) (hm:hs.length < m) (hl:hs.length=ws.length) (hr:∀ h∈hs,0<=h/\h < n)
  (hrw:∀ g w t,dQ (ws++[able]) (hs++[n]) g w t->0<=t/\t < n) (F:PrF n cs ws hs p) (P:cS (ws++[able]) (hs++[n]) n ss last) (N:(n::ss.map (·.2.2)).Nodup) (hne:ss≠[])
  (C:zF (ws++[able]) (hs++[n]) os) (hno:n∈os) (hmin:∀ o∈os,o≠n->0<=o/\o < n/\ms.getD last.toNat 0<=ms.getD o.toNat 0) (hms:∀ h,0<=h->h < n->ms.getD h.toNat 0=nxC (dY cs h) (hs.count h))
  (hlo:last∈os) (hln:last≠n):∃ p',PrF n cs (ws++[able]) (cW (hs++[n]) ss) p':=by
 obtain ⟨la0,la1,_⟩:=hmin last hlo hln
 generalize hM:nxC (dY cs last) (hs.count last)=M
 have mM:∀ o∈os,o≠n->M<=nxC (dY cs o) (hs.count o):=fun o ho hon=>by
  obtain ⟨o0,o1,o2⟩:=hmin o ho hon
  rw [hms last la0 la1,hms o o0 o1,hM] at o2
  exact o2
 let p':Int->Int:=fun h=>if h∈os then max (p h) M else p h
 have pin:∀ h,h∈os->p' h=max (p h) M:=fun h ho=>if_pos ho
 have pout:∀ h,h∉os->p' h=p h:=fun h ho=>if_neg ho
 have pge:∀ h,p h<=p' h:=fun h=>by
  by_cases ho:h∈os
  ·rw [pin h ho]; omega
  ·rw [pout h ho]; exact Jq _
 have edg:∀ g w t,dQ (ws++[able]) (hs++[n]) g w t->g≠n->p' g<=p' t:=fun g w t e hg=>by
  rcases (gR hl).mp e with e' | ⟨_,z,_⟩
  ·have:=F.ed g w t e'
   by_cases ho:g∈os
   ·have ht:=C g ho w t e
    rw [pin g ho,pin t ht]; omega
   ·rw [pout g ho]
    exact Zq this (pge t)
  ·exact absurd z hg
 have pl:p' last=M:=by
  have:=F.hi last la0 la1
  rw [hM] at this
  rw [pin last hlo]; omega
 have path:∀ (r:List (Nat×Int×Int)) (g:Int),g≠n->g∈os->cS (ws++[able]) (hs++[n]) g r last->p' g=M/\∀ s∈r,s.2.1∈os/\s.2.2∈os/\p' s.2.2=M:=by
  intro r
  induction r with
  | nil =>
   intro g hg ho e
   have e:g=last:=e
   subst e
   exact ⟨pl,fun s z=>(Qo z).elim⟩
  | cons s r ih =>
   rintro g hg ho ⟨e1,e2,e3⟩
   have ht:=C g ho _ _ e2
   have hrn:=hrw _ _ _ e2
   obtain ⟨i1,i2⟩:=ih s.2.2 (by omega) ht e3
   have h1:=edg _ _ _ e2 hg
   have h2:M<=p' g:=by rw [pin g ho]; omega
   refine ⟨by omega,fun s' m=>?_⟩
   rcases Qm.mp m with rfl | m
   ·exact ⟨by rw [e1]; exact ho,ht,i1⟩
   ·exact i2 s' m
 obtain ⟨s0,r0,rfl⟩:∃ s r,ss=s::r:=by
  cases ss with
  | nil=>exact absurd rfl hne
  | cons s r=>exact ⟨s,r,rfl⟩
 have hall:∀ s∈s0::r0,s.2.1∈os/\s.2.2∈os/\p' s.2.2=M:=by
  obtain ⟨e1,e2,e3⟩:=P
  have ht:=C n hno _ _ e2
  have hrn:=hrw _ _ _ e2
  obtain ⟨i1,i2⟩:=path r0 s0.2.2 (by omega) ht e3
  intro s' m
  rcases Qm.mp m with rfl | m
  ·exact ⟨by rw [e1]; exact hno,ht,i1⟩
  ·exact i2 s' m
 have h0w:s0.1=hs.length:=by
  obtain ⟨_,e2,_⟩:=P
  rcases (gR hl).mp e2 with ⟨z,_⟩ | ⟨z,_⟩
  ·have:=hr _ (Qe z); omega
  ·exact z
 have pe:=jW P
 have hcnt:∀ c,0<=c->c < n->(((cW (hs++[n]) (s0::r0)).count c:Nat):Int)=((hs.count c:Nat):Int)+(if c=last then 1 else 0):=fun c c0 c1=>by
  have:=lX (s0::r0) P N c
  rw [this,List.count_append,if_neg (by omega:¬ c=n),Xo,if_neg (by simp; omega),Yu]
  omega
 refine ⟨p',⟨fun h h0 h1 hp=>?_,fun h h0 h1=>?_,fun g w t e=>?_⟩⟩
 ·have hcn:=hcnt h h0 h1
  by_cases hla:h=last
  ·subst hla
   rw [if_pos rfl] at hcn
   have hlen:=(kP hc h0 h1).1
   have hcl:hs.count h<=hs.length:=Jz
   rw [show (cW (hs++[n]) (s0::r0)).count h - 1=hs.count h by omega,pl,<- hM,aEf (by omega)]
   exact Jq _
  ·rw [if_neg hla] at hcn
   rw [show (cW (hs++[n]) (s0::r0)).count h=hs.count h by omega] at hp ⊢
   exact Zq (F.lo h h0 h1 hp) (pge h)
 ·have hcn:=hcnt h h0 h1
  by_cases hla:h=last
  ·subst hla
   rw [if_pos rfl] at hcn
   rw [show (cW (hs++[n]) (s0::r0)).count h=hs.count h+1 by omega,pl,<- hM]
   exact aDX (kP hc h0 h1).2.2 _
  ·rw [if_neg hla] at hcn
   rw [show (cW (hs++[n]) (s0::r0)).count h=hs.count h by omega]
   have:=F.hi h h0 h1
   by_cases ho:h∈os
   ·have:=mM h ho (by omega)
    rw [pin h ho]; omega
   ·rw [pout h ho]; exact this
 ·obtain ⟨eg,l,el,htl,htg⟩:=e
  rcases aAF _ _ _ _ eg with ⟨h1,h2⟩ | ⟨s,m,rfl,rfl⟩
  ·refine edg g w t ⟨h1,l,el,htl,htg⟩ fun z=>?_
   subst z
   refine h2 s0 (Qq ..) ?_
   rw [h0w]
   rcases Wd w hs.length with hw | hw
   ·rw [Qs hw] at h1
    have:=hr _ (Qe h1); omega
   ·have:=(Qd.mp h1).1
    rw [Qk] at this
    have:w < hs.length+1:=this
    omega
  ·obtain ⟨a1,a2,a3⟩:=hall s m
   obtain ⟨b1,l',b2,b3,b4⟩:=pe s m
   rw [el] at b2
   cases b2
   have hto:t∈os:=by
    by_cases ht:t=s.2.1
    ·rw [ht]; exact a1
    ·exact C _ a1 s.1 t ⟨b1,l,el,htl,ht⟩
   rw [a3,pin t hto]
   omega
structure PrL (n:Int) (cs ws:List (List Int)) (hs vs:List Int):Prop where
 len:vs.length=n.toNat
 lo:∀ h,0<=h->h < n->0 < hs.count h->(dY cs h).getD (hs.count h - 1) 0<=vs.getD h.toNat 0
 hi:∀ h,0<=h->h < n->hs.count h < (dY cs h).length->vs.getD h.toNat 0<=(dY cs h).getD (hs.count h) 0
 ed:∀ g w t,dQ ws hs g w t->vs.getD g.toNat 0<=vs.getD t.toNat 0
def vK (cs ws:List (List Int)) (hs:List Int) (h v:Int):Prop:=(∃ k x,RL ws hs k h x/\v=nxC (dY cs x) (hs.count x))/\∀ k x,RL ws hs k h x->v<=nxC (dY cs x) (hs.count x)
theorem xK {ws:List (List Int)} {hs:List Int} {p:Int->Int} (ed:∀ g w t,dQ ws hs g w t->p g<=p t):∀ {k:Nat} {h x:Int},RL ws hs k h x->p h<=p x
 | 0,_,_,e=>by cases e; exact Jq _
 | _+1,_,_,.inl e=>by cases e; exact Jq _
 | _+1,_,_,.inr ⟨w,o,e,r⟩=>Zq (ed _ w o e) (xK ed r)
theorem PrL.of {n:Int} {cs ws:List (List Int)} {hs vs:List Int} {p:Int->Int} (F:PrF n cs ws hs p) (hrw:∀ g w t,dQ ws hs g w t->0<=t/\t < n) (hr:∀ h∈hs,0<=h/\h < n) (hl:vs.length=n.toNat) (hv:∀ (h:Nat),h < n.toNat->vK cs ws hs h (vs.getD h 0)):PrL n cs ws hs vs:=by
 have rng:∀ (k:Nat) (h x:Int),0<=h/\h < n->RL ws hs k h x->0<=x/\x < n:=fun k h x h0 r=>RL.closed (S:=fun x=>0<=x/\x < n) (fun g w t _ e=>hrw g w t e) h0 r
 have hv':∀ h:Int,0<=h->h < n->vK cs ws hs h (vs.getD h.toNat 0):=fun h h0 h1=>by
  have:=hv h.toNat (by omega)
  rwa [Xr h0] at this
 refine ⟨hl,fun h h0 h1 hp=>?_,fun h h0 h1 hp=>?_,fun g w t e=>?_⟩
 ·obtain ⟨⟨k,x,r,ev⟩,_⟩:=hv' h h0 h1
  have hx:=rng k h x ⟨h0,h1⟩ r
  rw [ev]
  exact Zq (F.lo h h0 h1 hp) (Zq (xK F.ed r) (F.hi x hx.1 hx.2))
 ·have:=(hv' h h0 h1).2 0 h rfl
  rwa [aEf hp] at this
 ·have ht:=hrw g w t e
  have hg:=hr g (Qe e.1)
  obtain ⟨⟨k,x,r,ev⟩,_⟩:=hv' t ht.1 ht.2
  rw [ev]
  exact (hv' g hg.1 hg.2).2 (k+1) x (.inr ⟨w,t,e,r⟩)
theorem PrL.all {n:Int} {cs ws:List (List Int)} {hs vs:List Int} (V:PrL n cs ws hs vs) (hc:cB n ws.length cs) (hl:hs.length=ws.length) (hd:∀ (j:Nat) (h:Int) (l:List Int),hs[j]?=some h->ws[j]?=some l->h∈l):eV n ws cs hs vs=true:=by
 unfold eV
 rw [decide_eq_true V.len,Xe,Jc]
 constructor
 ·rw [Jd]
  intro b hb
  unfold iP at hb
  obtain ⟨i,hi,rfl⟩:=Jm.mp hb
  have hi':i < n.toNat:=by rw [<- hc.1]; exact Jr.mp hi
  have hrl:(cs.getD i []).length=ws.length:=(kP (h:=(i:Int)) hc (by omega) (by omega)).1
  have hcl:hs.count (i:Int)<=hs.length:=Jz
  have e:(aL n hs).getD i 0=((hs.count (i:Int):Nat):Int):=by rw [Qn,dJ hi']; rfl
  have h1:=V.lo i (by omega) (by omega)
  have h2:=V.hi i (by omega) (by omega)
  unfold dY at h1 h2
  rw [Jw] at h1 h2
  rw [e,Jw]
  unfold cN
  simp only [id,Jc,Bool.or_eq_true,Bool.not_eq_true',Bool.and_eq_false_iff,decide_eq_true_eq,decide_eq_false_iff_not]
  refine ⟨?_,?_⟩
  ·by_cases hz:0 < hs.count (i:Int)
   ·have:=h1 hz
    right
    omega
   ·exact .inl hz
  ·by_cases hz:hs.count (i:Int) < (cs.getD i []).length
   ·exact .inr (h2 hz)
   ·left
    omega
 ·rw [Jd]
  rintro ⟨h,l⟩ hm
  obtain ⟨j,hj⟩:=Qy.mp hm
  have hz:=Jn.mp hj
  unfold iD
  rw [Jd]
  intro o ho
  refine decide_eq_true ?_
  by_cases e:o=h
  ·subst e; exact Jq _
  ·exact V.ed h j o ⟨hz.1,l,hz.2,ho,e⟩
theorem aCX {row:List Int} (hp:row.Pairwise (·<=·)) {l:Nat} {v:Int} (hi:l < row.length->v<=row.getD l 0):∀ d:Nat,l+d<=row.length->aM (row.take l)+v*d<=aM (row.take (l+d))
 | 0,_=>by rw [Nat.add_zero]; simp
 | d+1,h=>by
  have ih:=aCX hp hi d (by omega)
  have e:=lY (l:=row) (i:=l+d) (Qc (by omega))
  have h1:=hi (by omega)
  have h2:=oG hp (i:=l) (j:=l+d) (by omega) (by omega)
  rw [mR (show l+d < row.length by omega)] at h2
  rw [show l+(d+1)=l+d+1 by omega,e,Xn,Zx]
  show _+(v*d+v*1)<=_
  rw [Yw]
  omega
theorem xL {row:List Int} (hp:row.Pairwise (·<=·)) {l:Nat} {v:Int} (hl:l<=row.length) (lo:0 < l->row.getD (l - 1) 0<=v):∀ d:Nat,d<=l->aM (row.take l)<=aM (row.take (l - d))+v*d
 | 0,_=>by rw [Wv]; simp
 | d+1,h=>by
  have ih:=xL hp hl lo d (by omega)
  have e:=lY (l:=row) (i:=l - (d+1)) (Qc (by omega))
  have h1:=lo (by omega)
  have h2:=oG hp (i:=l - (d+1)) (j:=l - 1) (by omega) (by omega)
  rw [mR (show l - (d+1) < row.length by omega)] at h2
  rw [show l - (d+1)+1=l - d by omega] at e
  rw [Xn,Zx]
  show _<=_+(v*d+v*1)
  rw [Yw]
  omega
theorem aCY {row:List Int} (hp:row.Pairwise (·<=·)) {l l':Nat} {v:Int} (hl:l<=row.length) (hl':l'<=row.length) (lo:0 < l->row.getD (l - 1) 0<=v) (hi:l < row.length->v<=row.getD l 0):aM (row.take l)+v*l'<=aM (row.take l')+v*l:=by
 rcases Nat.le_total l l' with h | h
 ·have:=aCX hp hi (l' - l) (by omega)
  rw [show l+(l' - l)=l' by omega] at this
  have e:v*(l':Int)=v*(l:Int)+v*((l' - l:Nat):Int):=by rw [<- Zx]; congr 1; omega
  omega
 ·have:=xL hp hl lo (l - l') (by omega)
  rw [show l - (l - l')=l' by omega] at this
  have e:v*(l:Int)=v*(l':Int)+v*((l - l':Nat):Int):=by rw [<- Zx]; congr 1; omega
  omega
theorem aES {m:Nat} {h:Int} (f:Int->Int) (h0:0<=h) (h1:h < m):aM ((cZ m).map fun i=>if h=i then f i else 0)=f h:=by
 induction m with
 | zero=>omega
 | succ m ih =>
  have e:cZ (m+1)=cZ m++[(m:Int)]:=by unfold cZ; rw [List.range_succ,Qx]; rfl
  rw [e,Qx,iE]
  show _+((if h=(m:Int) then f (m:Int) else 0)+0)=_
  by_cases hm:h=(m:Int)
  ·rw [gS (l:=cZ m) (f:=fun i=>if h=i then f i else 0) fun x hx=>by
    unfold cZ at hx
    obtain ⟨i,hi,rfl⟩:=Jm.mp hx
    have hi':=Jr.mp hi
    exact if_neg (show ¬ h=((i:Nat):Int) by omega)]
   rw [if_pos hm,hm]
   omega
  ·rw [ih (by omega),if_neg hm]
   omega
theorem rW {n:Int} (f:Int->Int):∀ {hs:List Int},(∀ h∈hs,0<=h/\h < n)->aM ((cZ n.toNat).map fun h=>f h*((hs.count h:Nat):Int))=aM (hs.map f)
 | [],_=>by
  show _=(0:Int)
  exact gS fun x _=>by rw [Yu]; simp
 | h::hs,hh=>by
  have ih:=rW (n:=n) f (hs:=hs) fun x hx=>hh x (Qr _ hx)
  have hb:=hh h (Qq ..)
  have e1:=aES (m:=n.toNat) f hb.1 (by omega)
  show _=f h+aM (hs.map f)
  rw [<- ih,<- e1,<- eS]
  refine hG fun i _=>?_
  rw [Xo]
  by_cases hi:h=i
  ·subst hi
   rw [if_pos rfl,if_pos (by simp),Xn,Zx]
   show _+f h*1=_
   rw [Yw]
   omega
  ·rw [if_neg hi,if_neg (by simpa using hi)]
   simp
theorem xM {f:Int->Int}:∀ {hs hs':List Int},hs.length=hs'.length->(∀ (i:Nat) g t,hs[i]?=some g->hs'[i]?=some t->f g<=f t)->aM (hs.map f)<=aM (hs'.map f)
 | [],[],_,_=>Jq _
 | g::hs,t::hs',hl,h=>by
  have h1:=xM (f:=f) (hs:=hs) (hs':=hs') (by simpa using hl) fun i a b ha hb=>h (i+1) a b (by simpa using ha) (by simpa using hb)
  have h2:=h 0 g t rfl rfl
  show f g+aM (hs.map f)<=f t+aM (hs'.map f)
  omega
 | [],_::_,hl,_=>by simp at hl
 | _::_,[],hl,_=>by simp at hl
theorem PrL.least {n:Int} {cs ws:List (List Int)} {hs hs' vs:List Int} (V:PrL n cs ws hs vs) (hc:cB n ws.length cs) (hl:hs.length=ws.length) (hl':hs'.length=ws.length) (hr:∀ h∈hs,0<=h/\h < n) (hr':∀ h∈hs',0<=h/\h < n)
  (hd':∀ (j:Nat) (h:Int) (l:List Int),hs'[j]?=some h->ws[j]?=some l->h∈l):iB n cs hs<=iB n cs hs':=by
 have up:∀ x∈cZ n.toNat,0<=x/\x < n:=fun x hx=>by
  unfold cZ at hx
  obtain ⟨i,hi,rfl⟩:=Jm.mp hx
  have:=Jr.mp hi
  omega
 have h1:aM ((cZ n.toNat).map fun h=>aM ((cs.getD h.toNat []).take (hs.count h))+vs.getD h.toNat 0*((hs'.count h:Nat):Int))<=aM ((cZ n.toNat).map fun h=>aM ((cs.getD h.toNat []).take (hs'.count h))+vs.getD h.toNat 0*((hs.count h:Nat):Int)):=by
  refine nJ fun h hh=>?_
  obtain ⟨h0,h1⟩:=up h hh
  have hrow:=kP hc h0 h1
  have c1:hs.count h<=hs.length:=Jz
  have c2:hs'.count h<=hs'.length:=Jz
  exact aCY (row:=dY cs h) hrow.2.2 (by rw [hrow.1]; omega) (by rw [hrow.1]; omega) (V.lo h h0 h1) (V.hi h h0 h1)
 rw [eS,eS,rW (fun h=>vs.getD h.toNat 0) hr,rW (fun h=>vs.getD h.toNat 0) hr'] at h1
 have h2:=xM (f:=fun h=>vs.getD h.toNat 0) (hs:=hs) (hs':=hs') (by omega) fun i g t hg ht=>by
  by_cases e:t=g
  ·rw [e]; exact Jq _
  ·have hi:i < ws.length:=by rw [<- hl]; exact (Qd.mp hg).1
   have ew:=Qc hi
   exact V.ed g i t ⟨hg,_,ew,hd' i t _ ht ew,e⟩
 unfold iB
 omega
theorem aET {n:Int} {ws:List (List Int)} {hs hs':List Int} {lv:Int->Int} (L1:∀ h,0<=h->h < n->lv h<=((hs.count h:Nat):Int)/\((hs.count h:Nat):Int) - lv h < 2) (L2:∀ g w t,dQ ws hs g w t->lv g<=lv t) (hr:∀ h∈hs,0<=h/\h < n) (hr':∀ h∈hs',0<=h/\h < n) (hl:hs.length=hs'.length)
  (ha:∀ (i:Nat) t,hs'[i]?=some t->∃ l,ws[i]?=some l/\t∈l) (t:Int):ex t (aL n hs)<=ex t (aL n hs'):=by
 let p:Int->Bool:=fun h=>decide (t<=lv h)
 have up:∀ x∈cZ n.toNat,0<=x/\x < n:=fun x hx=>by
  unfold cZ at hx
  obtain ⟨i,hi,rfl⟩:=Jm.mp hx
  have:=Jr.mp hi
  omega
 have e1:ex t (aL n hs)=aM ((cZ n.toNat).map fun h=>if p h then ((hs.count h:Nat):Int) else 0)+aM ((cZ n.toNat).map fun h=>if p h then -t else 0):=by
  unfold ex aL
  rw [Zp,<- eS]
  refine hG fun h hh=>?_
  obtain ⟨h0,h1⟩:=up h hh
  obtain ⟨lev,dv⟩:=L1 h h0 h1
  show max (((hs.count h:Nat):Int) - t) 0=_
  by_cases hp:t<=lv h
  ·rw [show p h=true from decide_eq_true hp,if_pos rfl,if_pos rfl]; omega
  ·rw [show p h=false from decide_eq_false hp,if_neg Qv,if_neg Qv]; omega
 have e2:aM ((cZ n.toNat).map fun h=>if p h then ((hs'.count h:Nat):Int) else 0)+aM ((cZ n.toNat).map fun h=>if p h then -t else 0)<=ex t (aL n hs'):=by
  unfold ex aL
  rw [Zp,<- eS]
  refine nJ fun h hh=>?_
  show _<=max (((hs'.count h:Nat):Int) - t) 0
  split <;> omega
 have e3:inS p hs<=inS p hs':=by
  refine zL hl fun i g u hg hu hpg=>?_
  obtain ⟨l,el,hul⟩:=ha i u hu
  have hle:lv g<=lv u:=by
   by_cases hgu:u=g
   ·rw [hgu]; exact Jq _
   ·exact L2 g i u ⟨hg,l,el,hul,hgu⟩
  exact decide_eq_true (Zq (of_decide_eq_true hpg) hle)
 rw [jF p hr] at e1
 rw [jF p hr'] at e2
 omega
def iT (n:Int) (m:Nat) (cs:List (List Int)):Prop:=∀ h,0<=h->h < n->dY cs h=(List.range m).map fun i=>((i:Nat):Int)+1
theorem aCZ {m l:Nat} (h:l < m):((List.range m).map fun i=>((i:Nat):Int)+1).getD l 0=(l:Int)+1:=by
 rw [Qn,Qg,Zm h]; rfl
theorem PrL.levels {n:Int} {cs ws:List (List Int)} {hs hs' vs:List Int} (V:PrL n cs ws hs vs) (O:iT n ws.length cs) (hl:hs.length=ws.length) (hl':hs'.length=ws.length) (hr:∀ h∈hs,0<=h/\h < n) (hr':∀ h∈hs',0<=h/\h < n)
  (hrw:∀ g w t,dQ ws hs g w t->0<=t/\t < n) (hd':∀ (j:Nat) (h:Int) (l:List Int),hs'[j]?=some h->ws[j]?=some l->h∈l) (t:Int):ex t (aL n hs)<=ex t (aL n hs'):=by
 refine aET (ws:=ws) (lv:=fun h=>max (min ((hs.count h:Nat):Int) (vs.getD h.toNat 0 - 1)) (((hs.count h:Nat):Int) - 1)) (fun h _ _=>⟨by show max _ _<=_; omega,by show _ - max _ _ < _; omega⟩) (fun g w t e=>?_) hr hr' (by omega) (fun i t ht=>?_) t
 ·have hg:=hr g (Qe e.1)
  have ht:=hrw g w t e
  have hv:=V.ed g w t e
  have cg:0 < hs.count g:=List.count_pos_iff.mpr (Qe e.1)
  have cg2:hs.count g<=hs.length:=Jz
  have ct2:hs.count t<=hs.length:=Jz
  have lo:=V.lo g hg.1 hg.2 cg
  rw [O g hg.1 hg.2,aCZ (by omega)] at lo
  have ne:hs.count t≠hs.length:=fun z=>by
   have:=List.count_eq_length.mp z g (Qe e.1)
   obtain ⟨_,l,_,_,h5⟩:=e
   exact h5 this
  have hi:=V.hi t ht.1 ht.2
  rw [O t ht.1 ht.2,Qb,Zg] at hi
  have hi:=hi (by omega)
  rw [aCZ (by omega)] at hi
  show max _ _<=max _ _
  omega
 ·have hi:i < ws.length:=by rw [<- hl']; exact (Qd.mp ht).1
  have ew:=Qc hi
  exact ⟨_,ew,hd' i t _ ht ew⟩
theorem aAG {m:Nat}:∀ l:Nat,l<=m->2*aM (((List.range m).map fun i=>((i:Nat):Int)+1).take l)=(l:Int)*((l:Int)+1)
 | 0,_=>by rw [Zh]; simp [L2.aM]
 | l+1,h=>by
  have ih:=aAG (m:=m) l (by omega)
  have e:((List.range m).map fun i=>((i:Nat):Int)+1)[l]?=some ((l:Int)+1):=by rw [Qg,Zm (by omega)]; rfl
  rw [lY e,Zx,ih,Xn]
  show (l:Int)*((l:Int)+1)+2*((l:Int)+1)=((l:Int)+1)*((l:Int)+1+1)
  rw [Int.mul_comm ((l:Int)+1) ((l:Int)+1+1),<- Wz]
  congr 1
theorem aC0 {n:Int} {m:Nat} {cs:List (List Int)} {hs:List Int} (O:iT n m cs) (hl:hs.length=m):iB n cs hs=qS n hs:=by
 unfold iB qS aL
 rw [Zp]
 refine hG fun h hh=>?_
 unfold cZ at hh
 obtain ⟨i,hi,rfl⟩:=Jm.mp hh
 have hi':=Jr.mp hi
 have c2:hs.count (i:Int)<=hs.length:=Jz
 have:=aAG (m:=m) (hs.count (i:Int)) (by omega)
 have e:=O (i:Int) (by omega) (by omega)
 unfold dY at e
 rw [e]
 show _=((hs.count (i:Int):Nat):Int)*(((hs.count (i:Int):Nat):Int)+1) / 2
 omega
end Ab
namespace Ab
open PySem L2
def aC1 (hs:List Int) (ss:List (Nat×Int×Int)):List Int:=ss.foldl (fun l s=>l.set s.1 s.2.2) hs
def kQ (xs:List V) (ss:List (Nat×Int×Int)):List V:=ss.foldl (fun l s=>l.set s.1 (.int s.2.2)) xs
theorem tY:∀ (ss:List (Nat×Int×Int)) (xs:List V),(kQ xs ss).length=xs.length
 | [],_=>rfl
 | s::r,xs=>(tY r _).trans Xk
theorem zP (xs:List V) (ss:List (Nat×Int×Int)) (s:Nat×Int×Int):kQ xs (ss++[s])=(kQ xs ss).set s.1 (.int s.2.2):=by
 unfold kQ
 rw [List.foldl_append]
 rfl
theorem tZ:∀ (ss:List (Nat×Int×Int)) (hs:List Int),kQ (hs.map V.int) ss=(aC1 hs ss).map V.int
 | [],_=>rfl
 | s::r,hs=>by
  show kQ ((hs.map V.int).set s.1 (.int s.2.2)) r=_
  rw [show (hs.map V.int).set s.1 (.int s.2.2)=(hs.set s.1 s.2.2).map V.int by rw [List.map_set]]
  exact tZ r _
theorem xN:∀ (ss:List (Nat×Int×Int)) (hs:List Int),(aC1 hs ss).length=hs.length
 | [],_=>rfl
 | s::r,hs=>(xN r _).trans Xk
theorem aAH {ws:List (List Int)}:∀ (ss:List (Nat×Int×Int)) (hs:List Int),(∀ (j:Nat) (h:Int) (l:List Int),hs[j]?=some h->ws[j]?=some l->h∈l)->(∀ s∈ss,∀ l,ws[s.1]?=some l->s.2.2∈l) ->
  ∀ (j:Nat) (h:Int) (l:List Int),(aC1 hs ss)[j]?=some h->ws[j]?=some l->h∈l
 | [],_,h0,_=>h0
 | s::r,hs,h0,h1=>by
  refine aAH r (hs.set s.1 s.2.2) (fun j h l e1 e2=>?_) fun s' h'=>h1 s' (Qr _ h')
  rw [Xi] at e1
  by_cases e:s.1=j
  ·rw [if_pos e] at e1
   split at e1
   ·rw [<- Option.some.inj e1]
    exact h1 s (Qq ..) l (by rw [e]; exact e2)
   ·cases e1
  ·rw [if_neg e] at e1
   exact h0 j h l e1 e2
theorem aC2 {ws:List (List Int)} {hs able:List Int} {n last:Int} {ss:List (Nat×Int×Int)} (hl:hs.length=ws.length) (hh:∀ (j:Nat) (h:Int),hs[j]?=some h->h < n) (hd:∀ (j:Nat) (h:Int) (l:List Int),hs[j]?=some h->ws[j]?=some l->h∈l)
  (P:cS (ws++[able]) (hs++[n]) n ss last) (ne:ss≠[]):kQ (hs.map V.int++[V.non]) ss=(cW (hs++[n]) ss).map V.int/\(cW (hs++[n]) ss).length=hs.length+1/\∀ (j:Nat) (h:Int) (l:List Int),(cW (hs++[n]) ss)[j]?=some h->(ws++[able])[j]?=some l->h∈l:=by
 cases ss with
 | nil=>exact absurd rfl ne
 | cons s r =>
  obtain ⟨e1,e2,e3⟩:=P
  have ed:∀ s'∈s::r,∀ l,(ws++[able])[s'.1]?=some l->s'.2.2∈l:=fun s' m l el=>by
   obtain ⟨_,l',h1,h2,_⟩:=jW (ws:=ws++[able]) (hs:=hs++[n]) (ss:=s::r) (h:=n) (x:=last) ⟨e1,e2,e3⟩ s' m
   rw [el] at h1; cases h1; exact h2
  rcases (gR hl).mp e2 with ⟨z,_⟩ | ⟨hw,_,ht,_⟩
  ·exact absurd (hh _ _ z) (by omega)
  ·have eg:cW (hs++[n]) (s::r)=aC1 (hs++[s.2.2]) r:=by
    show aC1 ((hs++[n]).set s.1 s.2.2) r=_
    rw [hw,Wf _ _ (Qh _),Xf]
    rfl
   rw [eg]
   refine ⟨?_,by rw [xN,Qk]; rfl,aAH r _ (fun j h l a b=>?_) fun s' m=>ed s' (Qr _ m)⟩
   ·rw [<- tZ]
    show kQ ((hs.map V.int++[V.non]).set s.1 (.int s.2.2)) r=_
    rw [hw,Wf _ _ (by rw [Qb]; exact Qh _),Qb,Xf,Qx]
    rfl
   ·by_cases hj:j < hs.length
    ·rw [Qs hj] at a
     rw [Qs (by omega)] at b
     exact hd j h l a b
    ·have ej:j=hs.length:=by
      have:=(Qd.mp a).1
      rw [Qk] at this
      simp at this
      omega
     subst ej
     rw [Qw (Qh _),Xf] at a
     rw [hl,Qw (Qh _),Xf] at b
     have ea:s.2.2=h:=by simpa using a
     have eb:able=l:=by simpa using b
     rw [<- ea,<- eb]; exact ht
theorem xO {n:Int} {cs:List (List Int)} {hs ns:List Int} (hcl:cs.length=n.toNat) (hnv:∀ (i:Nat) row l,cs[i]?=some row->(aL n hs)[i]?=some l->ns[i]?=some (nxC row l.toNat)):∀ h,0<=h->h < n->ns.getD h.toNat 0=nxC (dY cs h) (hs.count h):=fun h h0 h1=>by
 have hl:h.toNat < cs.length:=by omega
 have e:=hnv h.toNat _ _ (Qc hl) (dJ (hs:=hs) (show h.toNat < n.toNat by omega))
 rw [Jw,Xr h0] at e
 unfold dY
 rw [Qn,e,Qn,Qc hl]
 rfl
theorem rX {n:Int} {m:Nat} {cs:List (List Int)} {hs:List Int} (hn:n<=6) (hw:m<=12) (hl:hs.length<=m) (hc:cB n m cs):rA cs (aL n hs):=by
 refine ⟨by rw [bJ,hc.1],by rw [hc.1]; omega,fun i row l h1 h2=>?_⟩
 have hb:=iC (Qe h2)
 have hr:=(hc.2 row (Qe h1)).1
 omega
theorem aBy (ws:List (List Int)) (i:Nat):(ws.take i).map bO=(ws.map bO).take i:=by rw [Wq]
theorem iN {K:PySem.W.Frag} {H:Hp}:∀ (i:Nat) {ds:List PyData} {vs:List V},bA K H ds vs->bA K H (ds.take i) (vs.take i)
 | 0,_,_,_=>bD.mpr rfl
 | i+1,[],vs,h=>by rw [bD.mp h]; exact bD.mpr rfl
 | i+1,d::ds,vs,h=>by
  obtain ⟨v,r,rfl,h1,h2⟩:=aX.mp h
  exact aX.mpr ⟨v,r.take i,rfl,h1,iN i h2⟩
section
variable {P:Program} {w:World} {K:PySem.W.Frag} {mg:Str->Option Value} {base:Heap}
def xP (K:PySem.W.Frag) (Pt:Addr):Sp:=fun vs H Q _=>∃ (x:V) (q:Addr) (n:Int) (ws cs:List (List Int)),vs = [x,.ref q]/\Den K H (bY n ws) x/\cG (bY n ws)=true/\Den K H (gH cs) (.ref q)/\cB n ws.length cs/\H Pt=some (.tab xC) /\
 ∀ (p:Addr) H' (hs:List Int),aE H H'->H p=none->H' p=some (.tup (hs.map V.int))->cR ws (cM hs)=true->(∃ pr,PrF n cs ws hs pr)->Q (.ref p) H'
theorem eR:FnScope ["book", "costs", "hands", "works", "deal", "work", "able", "nexts", "steps", "moved", "giver", "taker"] ["book", "costs"] (aF oY):=⟨rfl,rfl,rfl,by decide +kernel,rfl,by decide +kernel,by decide +kernel⟩
set_option maxHeartbeats 2000000 in
theorem aBz {f fC fN fS:Addr} {fd dC dN dS:FuncData} (G:Fn K mg "cheapest_deal" oY ["book", "costs"] f fd) (B:Bl mg) {Pt:Addr}
  (GCo:Fn K mg "counted" eP ["hands", "deal"] fC dC) (GNx:Fn K mg "next_costs" tK ["costs", "many"] fN dN) (GST:Fn K mg "steps_to_least" iX ["book", "deal", "able", "measures"] fS dS) (OST:FnOk P w K mg base CX0 2 fS dS ["book", "deal", "able", "measures"] (aAy K Pt)):FnOk P w K mg base CX0 3 f fd ["book", "costs"] (xP K Pt):=by
 have OCo:FnOk P w K mg base CX0 1 fC dC ["hands", "deal"] (qZ K):=wW GCo B
 have ONx:FnOk P w K mg base CX0 1 fN dN ["costs", "many"] (yY K):=aAv GNx B
 refine G.fn.ok eR (fun vs H Q E h=>?_) (fun cdv A outer s H vs Q E hr h=>?_)
 ·obtain ⟨x,q,n,ws,cs,rfl,_⟩:=h
  rfl
 ·obtain ⟨x,q,n,ws,cs,rfl,hx,hbk,hq,hc,hT,k⟩:=h
  have r1:Room 1 _:=hr.mono (by decide)
  have r2:Room 2 _:=hr
  refine ⟨_,(aD (iG (pv 0) (eU rfl (aQ (aH (i:=2) eR.nd rfl (Or.inl rfl)) (aQ (aH (i:=3) eR.nd rfl (Or.inl rfl)) cH))))
  (aD (aY (i:=4) eR.nd rfl (Or.inl rfl) (eM aB))
  (aD (dZ PassesOwn.never rfl (aDr .t rfl B.enumerate (aA (pv 3) aB)) (eU rfl (aQ (aH (i:=5) eR.nd rfl (Or.inl rfl)) (aQ (aH (i:=6) eR.nd rfl (Or.inl rfl)) cH)))
   (aD (aY (i:=7) eR.nd rfl (Or.inl rfl) (aT GNx ONx r1 rfl (aA (pv 1) (aA (aT GCo OCo r1 rfl (aA (pv 2) (aA (pv 4) aB))) aB))))
  (aD (aY (i:=8) eR.nd rfl (Or.inl rfl) (aT GST OST r2 rfl (aA (gN (aA (pv 2) (aA (kF uI (pv 3) mD (mE (pv 5))) aB))) (aA (pv 4) (aA (pv 6) (aA (pv 7) aB))))))
  (aD (cQ (mG PySem.F.plainAttrs_list PySem.F.slot_list_append PySem.F.type_list_append gO (pv 4) (aA aBG aB)))
  (aG (dZ PassesOwn.never rfl (jJ (pv 8)) (eU rfl (aQ (aH (i:=9) eR.nd rfl (Or.inl rfl)) (aQ (aH (i:=10) eR.nd rfl (Or.inl rfl)) (aQ (aH (i:=11) eR.nd rfl (Or.inl rfl)) cH))))
   (aG (iG (pv 11) (uD (pv 4) (pv 9) mF)))))))))
  (aG (aO (bQ bI rfl B.tuple bV (aA (pv 4) aB))))))),?_⟩
  obtain ⟨hn1,hn6,hw12,hws⟩:=bC hbk
  obtain ⟨a,b,ys,rfl,ha,hb2,hys⟩:=bS hx
  have hlw:=aN hys
  rw [Qb] at hlw
  refine ⟨_,rfl,a,_,rfl,ha,rfl,_,_,rfl,_,_,rfl,rfl,?_⟩
  refine ⟨cV (show 0<=1000 by decide),fun dl hdl=>?_⟩
  have s1:=aE.new (o:=.lst []) hdl
  have e1:upd H dl (.lst []) dl=some (.lst []):=aC
  generalize upd H dl (.lst [])=H1 at s1 e1 ⊢
  refine ⟨_,rfl,b,ys,rfl,s1.seqT hb2,aB6 (K:=K) (k:=.t) (a:=b) (xs:=ys) (fun i σ H2=>∃ (v5 v6 v7 v8 v9 v10 v11:Option V) (hs:List Int),σ = [some (.ref a),some (.ref q),some (.int n),some (.ref b),some (.ref dl),v5,v6,v7,v8,v9,v10,v11]/\aE H H2/\H2 dl=some (.lst (hs.map V.int))/\hs.length=i /\
    (∀ (j:Nat) (h:Int) (l:List Int),hs[j]?=some h->ws[j]?=some l->h∈l)/\∃ pr,PrF n cs (ws.take i) hs pr)
   ⟨_,_,_,_,_,_,_,[],rfl,s1,e1,rfl,fun j h l z=>by simp at z,_,PrF.nil n cs⟩ (fun i σ H2 _ ⟨_,_,_,_,_,_,_,_,_,s2,_⟩=>s2.seqT hb2) ?_ ?_⟩
  ·rintro i u pr σ H2 hu ⟨v5,v6,v7,v8,v9,v10,v11,hs,rfl,s2,e2,hhl,hd,pr0,F0⟩ hpr
   obtain ⟨dv,hdv,denv⟩:=cC hys hu
   rw [Qg] at hdv
   obtain ⟨l,hl,rfl⟩:∃ l,ws[i]?=some l/\bO l=dv:=by
    cases q:ws[i]? with
    | none=>rw [q] at hdv; cases hdv
    | some l=>rw [q] at hdv; exact ⟨l,rfl,Option.some.inj hdv⟩
   obtain ⟨aw,rfl,haw⟩:=aP.mp denv
   have hil:i < ws.length:=(Qd.mp hl).1
   have hwk:=hws l (Qe hl)
   have s3:=aE.new (o:=.tup [.int (i:Nat),.ref aw]) hpr
   have p3:upd H2 pr (.tup [.int (i:Nat),.ref aw]) pr=some (.tup [.int (i:Nat),.ref aw]):=aC
   have e3:=s3 _ _ e2
   have s03:=s2.trans s3
   generalize upd H2 pr (.tup [.int (i:Nat),.ref aw])=H3 at s3 p3 e3 s03 ⊢
   refine ⟨pr,_,rfl,SqT.of p3,rfl,_,_,rfl,_,_,rfl,rfl,?_⟩
   refine ⟨_,rfl,_,rfl,_,rfl,n,dl,hs,rfl,SqL.of e3,by omega,hn6,fun mp H4 s4 hmp=>?_⟩
   have s04:=s03.trans s4
   refine ⟨q,mp,cs,aL n hs,rfl,s04.den _ _ hq,SqT.of hmp,rX hn6 hw12 (by omega) hc,fun nx ns H5 s5 hnx0 hnx hnl hnv=>?_⟩
   have s05:=s04.trans s5
   have e5:=s5 _ _ (s4 _ _ e3)
   refine ⟨_,rfl,_,rfl,_,rfl,_,rfl,b,_,rfl,s05.seqT hb2,fun q1 H6 s6 hq1=>⟨sz2 _ _,fun bk hbk=>?_⟩⟩
   rw [uJ] at hq1
   have s06:=s05.trans s6
   have s7:=aE.new (o:=.tup [.int n,.ref q1]) hbk
   have b7:upd H6 bk (.tup [.int n,.ref q1]) bk=some (.tup [.int n,.ref q1]):=aC
   have s07:=s06.trans s7
   have e7:=s7 _ _ (s6 _ _ e5)
   have n7:=s7 _ _ (s6 _ _ hnx)
   have q7:=s7.seqT hq1
   generalize upd H6 bk (.tup [.int n,.ref q1])=H7 at s7 b7 s07 e7 n7 q7 ⊢
   have hbkT:cG (bY n (ws.take i))=true:=vG hn1 hn6 (by rw [Ja]; omega) fun l h=>hws l (Xb h)
   have hlT:hs.length=(ws.take i).length:=by rw [Ja]; omega
   have hdT:∀ (j:Nat) (h:Int) (l:List Int),hs[j]?=some h->(ws.take i)[j]?=some l->h∈l:=fun j h l a b=>by
    have hji:j < i:=by have:=(Qd.mp a).1; omega
    rw [Yr,if_pos hji] at b
    exact hd j h l a b
   have gL:rJ K H7 (.ref bk) dl n (ws.take i) hs:=⟨nZ (SqT.of b7) q7 (by rw [aBy]; exact iN i (s07.denAll _ _ hys)),hbkT,SqL.of e7,jR hlT hdT⟩
   refine ⟨_,rfl,_,rfl,_,rfl,.ref bk,dl,aw,nx,n,ws.take i,hs,l,ns,rfl,gL,s07.seqT haw,hwk,SqL.of n7,by rw [hnl,hc.1],s07 _ _ hT,fun sp H8 ps ss os last s8 hsp hps S8 P8 N8 ne8 C8 no8 mi8 lo8 ln8 _=>?_⟩
   have s08:=s07.trans s8
   have e8:=s8 _ _ e7
   have ndl:dl≠sp:=fun z=>by rw [z,hsp] at e7; cases e7
   have hi12:hs.length < 12:=by omega
   refine ⟨_,rfl,.inl ⟨rfl,_,SqL.of e8⟩,dl,_,.non,rfl,rfl,e8,by rw [Qb,sizeLine_eq]; omega,?_⟩
   have s09:aE H (upd H8 dl (.lst (hs.map V.int++[V.non]))):=s08.wr hdl
   have e9:upd H8 dl (.lst (hs.map V.int++[V.non])) dl=some (.lst (hs.map V.int++[V.non])):=aC
   have p9:upd H8 dl (.lst (hs.map V.int++[V.non])) sp=some (.lst (ps.map V.ref)):=by rw [aI (Ne.symm ndl)]; exact hps
   have S9:=S8.tp (Tp.upd (a:=dl) (u:=.lst (hs.map V.int++[V.non])) fun xs z=>by rw [e8] at z; cases z)
   generalize upd H8 dl (.lst (hs.map V.int++[V.non]))=H9 at s09 e9 p9 S9 ⊢
   have hlt:∀ s∈ss,s.1 < hs.length+1:=fun s hs'=>by
    obtain ⟨h1,_⟩:=jW P8 s hs'
    have:=(Qd.mp h1).1
    rw [Qk] at this
    exact this
   refine ⟨_,rfl,sp,rfl,⟨_,SqL.of p9⟩,mB (K:=K) (a:=sp) (xs:=ps.map V.ref) (fun j σ H10=>∃ (v9 v10 v11:Option V),σ = [some (.ref a),some (.ref q),some (.int n),some (.ref b),some (.ref dl),some (.int (i:Nat)),some (.ref aw),some (.ref nx),some (.ref sp),v9,v10,v11]/\aE H H10/\H10 sp=some (.lst (ps.map V.ref))/\StepsAt H10 ps ss/\H10 dl=some (.lst (kQ (hs.map V.int++[V.non]) (ss.take j))))
    ⟨_,_,_,rfl,s09,p9,S9,e9⟩ (fun j σ H10 _ ⟨_,_,_,_,_,h,_⟩=>SqL.of h) ?_ ?_⟩
   ·rintro j pv σ H10 hpv ⟨v9,v10,v11,rfl,s10,p10,S10,e10⟩
    rw [Qg] at hpv
    obtain ⟨p,hp,rfl⟩:∃ p,ps[j]?=some p/\V.ref p=pv:=by
     cases z:ps[j]? with
     | none=>rw [z] at hpv; cases hpv
     | some p=>rw [z] at hpv; exact ⟨p,rfl,Option.some.inj hpv⟩
    have hjs:j < ss.length:=by rw [<- S10.len]; exact (Qd.mp hp).1
    have es:ss[j]?=some ss[j]:=Qc hjs
    generalize ss[j]=s at es
    have hp10:=S10.at_ j p s hp es
    have hsl:=hlt s (Qe es)
    refine ⟨p,_,rfl,SqT.of hp10,rfl,_,_,rfl,_,_,rfl,_,_,rfl,rfl,?_⟩
    refine ⟨_,rfl,_,rfl,_,rfl,dl,_,(s.1:Int),s.1,rfl,rfl,e10,?_,?_⟩
    ·have:=aCO (n:=(kQ (hs.map V.int++[V.non]) (ss.take j)).length) (k:=(s.1:Int)) (by omega) (by rw [tY,Qk,Qb]; show (s.1:Int) < ((hs.length+1:Nat):Int); omega)
     rwa [Jw] at this
    ·refine ⟨_,_,_,rfl,s10.wr hdl,by rw [aI (Ne.symm ndl)]; exact p10,S10.tp (Tp.upd fun xs z=>by rw [e10] at z; cases z),?_⟩
     rw [aC,Jh,es]
     show _=some (HO.lst (kQ _ (ss.take j++[s])))
     rw [zP]
   ·rintro σ H10 ⟨v9,v10,v11,rfl,s10,p10,S10,e10⟩
    rw [Qb,S10.len,Js] at e10
    obtain ⟨q1',q2,q3⟩:=aC2 hlT (fun j h z=>(gL.hand z).2) hdT P8 ne8
    rw [q1'] at e10
    have et:ws.take i++[l]=ws.take (i+1):=by rw [Jh,hl]; rfl
    have hrT:∀ h∈hs,0<=h/\h < n:=fun h hm=>by
     obtain ⟨j,hj⟩:=Qy.mp hm
     exact gL.hand hj
    have F9:=F0.step (m:=ws.length) hc (by omega) hlT hrT (fun g w t e=>by
     obtain ⟨_,l2,h1,h2,_⟩:=e
     rw [et] at h1
     exact (bL (hws l2 (Xb (Qe h1)))).2.1 t h2) P8 N8 ne8 C8 no8 mi8 (xO hc.1 hnv) lo8 ln8
    rw [et] at F9
    refine ⟨_,_,_,_,_,_,_,_,rfl,s10,e10,by omega,fun j h l' z1 z2=>?_,F9⟩
    have hji:j < i+1:=by have:=(Qd.mp z1).1; omega
    exact q3 j h l' z1 (by rw [et,Yr,if_pos hji]; exact z2)
  ·rintro σ H2 ⟨v5,v6,v7,v8,v9,v10,v11,hs,rfl,s2,e2,hhl,hd,hF⟩
   rw [Jf (by omega)] at hF
   refine ⟨_,rfl,dl,_,rfl,.inl ⟨SqL.of e2,fun p hp=>?_⟩⟩
   exact k p _ hs (s2.trans (aE.new hp)) (s2.free hp) aC (jR (by omega) hd) hF
end
theorem zQ {X:Cx} {K:PySem.W.Frag} (hK:X.K=K) (hc:X.calm=true):eI X (.builtin "min") (fun xs H Q=>∃ (p:Addr) (ns:List Int),xs = [.ref p]/\SqL K H p (ns.map V.int)/\0 < ns.length/\∀ M,M∈ns->(∀ a∈ns,M<=a)->Q (.int M) H):=by
 subst hK; exact aA3 hc
def aEU:Scope:=aF2 { kind:=.function,names:=[(".0",.local),("hand",.local),("min",.globalImplicit),("reached",.globalImplicit),("nexts",.free),("rows",.free)],isGenerator:=false,isCoroutine:=false } (aF nW)
section
variable {P:Program} {w:World} {K:PySem.W.Frag} {mg:Str->Option Value} {base:Heap}
variable {fW fH fK fB fNB fD fND fL:Addr} {dW dH dK dB dNB dD dND dL:FuncData}
def aAI (K:PySem.W.Frag) (Pt:Addr):Sp:=fun vs H Q _=>∃ (x:V) (q:Addr) (n:Int) (ws cs:List (List Int)),vs = [x,.ref q]/\Den K H (bY n ws) x/\cG (bY n ws)=true/\Den K H (gH cs) (.ref q)/\cB n ws.length cs/\H Pt=some (.tab xC) /\
 ∀ (p dp pp:Addr) (hs ps:List Int) H',aE H H'->H' p=some (.tup [.int (iB n cs hs),.ref dp,.ref pp])->H' dp=some (.tup (hs.map V.int))->cR ws (cM hs)=true->H' pp=some (.tup (ps.map V.int))->PrL n cs ws hs ps->Q (.ref p) H'
theorem nM:FnScope ["book", "costs", "deal", "nexts", "rows", "prices"] ["book", "costs"] (aF nW):=⟨rfl,rfl,rfl,by decide +kernel,rfl,by decide +kernel,by decide +kernel⟩
set_option maxHeartbeats 2000000 in
theorem aC3 {f fN fC fX fS fHd fR fF:Addr} {fd dN dC dX dS dHd dR dF:FuncData} (G:Fn K mg "cheapest" nW ["book", "costs"] f fd) (B:Bl mg) {Pt:Addr} (R:Pr K mg fW fH fK fB fNB fD fND fL dW dH dK dB dNB dD dND dL)
  (GNC:Fn K mg "need_costs" nV ["book", "costs"] fN dN) (ONC:FnOk P w K mg base CX0 6 fN dN ["book", "costs"] (nE K)) (GCo:Fn K mg "counted" eP ["hands", "deal"] fC dC) (GNx:Fn K mg "next_costs" tK ["costs", "many"] fX dX)
  (GCD:Fn K mg "cheapest_deal" oY ["book", "costs"] fS dS) (OCD:FnOk P w K mg base CX0 3 fS dS ["book", "costs"] (xP K Pt)) (GH:Fn K mg "handing" gE ["book", "deal"] fHd dHd) (GR:Fn K mg "reached" iW ["rows", "first"] fR dR)
  (GCF:Fn K mg "cost_of" kZ ["book", "costs", "deal"] fF dF):FnOk P w K mg base CX0 8 f fd ["book", "costs"] (aAI K Pt):=by
 have OCo:FnOk P w K mg base CX0 1 fC dC ["hands", "deal"] (jC K):=jQ GCo B
 have ONx:FnOk P w K mg base CX0 1 fX dX ["costs", "many"] (yY K):=aAv GNx B
 have OH:FnOk P w K mg base CX0 1 fHd dHd ["book", "deal"] (oB K):=rH GH B
 have OR:FnOk P w K mg base CX0 1 fR dR ["rows", "first"] (lF K):=lV GR B
 have OCF:FnOk P w K mg base CX0 7 fF dF ["book", "costs", "deal"] (rB K):=tQ GCF B R GNC ONC GCo
 refine G.fn.ok nM (fun vs H Q E h=>?_) (fun cdv A outer s H vs Q E hr h=>?_)
 ·obtain ⟨x,q,n,ws,cs,rfl,_⟩:=h
  rfl
 ·obtain ⟨x,q,n,ws,cs,rfl,hx,hbk,hq,hc,hT,k⟩:=h
  have r1:Room 1 _:=hr.mono (by decide)
  have r3:Room 3 _:=hr.mono (by decide)
  have r6:Room 6 _:=hr.mono (by decide)
  have r7:Room 7 _:=hr
  refine ⟨_,(aD (cQ (aT GNC ONC r6 rfl (aA (pv 0) (aA (pv 1) aB))))
  (aD (aY (i:=2) nM.nd rfl (Or.inl rfl) (aT GCD OCD r3 rfl (aA (pv 0) (aA (pv 1) aB))))
  (aD (aY (i:=3) nM.nd rfl (Or.inr rfl) (aT GNx ONx r1 rfl (aA (pv 1) (aA (aT GCo OCo r1 rfl (aA (aU aZ (pv 0) aJ (fun _ _=>rfl)) (aA (pv 2) aB))) aB))))
  (aD (aY (i:=4) nM.nd rfl (Or.inr rfl) (aT GH OH r1 rfl (aA (pv 0) (aA (pv 2) aB))))
  (aD (aY (i:=5) nM.nd rfl (Or.inl rfl) (bQ bI rfl B.tuple bV (aA (bR (own:=["hand"]) (fr:=[3,4]) (frn:=["nexts", "rows"]) (aV (aF nW) ["book", "costs", "deal", "nexts", "rows", "prices"] rfl rfl (by decide +kernel)) rfl (cK rfl B.range (aA (aU aZ (pv 0) aJ (fun _ _=>rfl)) aB))
    (fun _ _ _ _=>(aH (i:=0) (show (["hand", "nexts", "rows"]:List Str).Nodup by decide +kernel) rfl (Or.inl rfl))) (fun _ _ _ _=>cA)
    (fun _ _ _ _=>(aK (zQ (K:=K) rfl rfl) rfl B.min aD9 (aA (wP (own:=["other"]) (fr:=[1]) (frn:=["nexts"]) (aV aEU ["hand", "nexts", "rows"] rfl rfl (by decide +kernel)) rfl (aT GR OR r1 rfl (aA (pv 2) (aA (pv 0) aB)))
    (fun _ _ _ _=>(aH (i:=0) (show (["other", "nexts"]:List Str).Nodup by decide +kernel) rfl (Or.inl rfl))) (fun _ _ _ _=>cA)
    (fun _ _ _ _=>(aU (wD (K:=K) rfl) (pv 1) (pv 0) (fun _ _=>rfl)))) aB)))) aB)))
  (aG (aO (gN (aA (aT GCF OCF r7 rfl (aA (pv 0) (aA (pv 1) (aA (pv 2) aB)))) (aA (pv 2) (aA (pv 5) aB))))))))))),?_⟩
  obtain ⟨hn1,hn6,hw12,hws⟩:=bC hbk
  refine ⟨_,rfl,_,rfl,x,q,n,ws,cs,rfl,hx,hbk,hq,hc,fun H1 s1=>?_⟩
  refine ⟨_,rfl,_,rfl,x,q,n,ws,cs,rfl,s1.den _ _ hx,hbk,s1.den _ _ hq,hc,s1 _ _ hT,fun dp H2 hs s2 hdp0 hdp hd hF=>?_⟩
  obtain ⟨pr0,F0⟩:=hF
  have s12:=s1.trans s2
  obtain ⟨a,b,ys,rfl,ha,hb2,hys⟩:=bS (s12.den _ _ hx)
  have g2:dM K H2 (.ref a) (.ref dp) n ws hs:=⟨s12.den _ _ hx,hbk,aP.mpr ⟨dp,rfl,SqT.of hdp⟩,hd⟩
  obtain ⟨hdl,hdm⟩:=bF hd
  refine ⟨_,rfl,_,rfl,a,_,0,.int n,rfl,rfl,ha,rfl,_,rfl,n,dp,hs,rfl,SqT.of hdp,by omega,hn6,fun mp H3 s3 hmp=>?_⟩
  have s13:=s12.trans s3
  refine ⟨q,mp,cs,aL n hs,rfl,s13.den _ _ hq,SqT.of hmp,rX hn6 hw12 (by omega) hc,fun nx ns H4 s4 hnx0 hnx hnl hnv=>?_⟩
  have hna:=xO hc.1 hnv
  have s14:=s13.trans s4
  have s24:=s3.trans s4
  have hnn:ns.length=n.toNat:=by rw [hnl,hc.1]
  refine ⟨_,rfl,_,rfl,.ref a,.ref dp,n,ws,hs,rfl,g2.same s24,fun rp H5 qs rs s5 hrp hqs R5 hlr ER=>?_⟩
  have s15:=s14.trans s5
  have s25:=s24.trans s5
  have nx5:=s5 _ _ hnx
  have hedge:∀ g w t,dQ ws hs g w t->0<=t/\t < n:=fun g w t e=>by
   obtain ⟨_,l,h1,h2,_⟩:=e
   exact (bL (hws l (Qe h1))).2.1 t h2
  refine ⟨_,rfl,a,_,0,.int n,rfl,rfl,s25.seqT ha,rfl,n,rfl,by omega,by omega,eC (lo:=0) (n:=n.toNat) (fun σ=>∃ v,σ = [v,some (.ref nx),some (.ref rp)]) (fun i zs H6=>aE H5 H6/\∃ vs:List Int,zs=vs.map V.int/\vs.length=i/\∀ j:Nat,j < i->vK cs ws hs j (vs.getD j 0)) (cV (by omega)) ⟨none,rfl⟩ ⟨aE.refl _,[],rfl,rfl,fun j z=>by omega⟩ ?_ ?_ ?_⟩
  ·rintro i zs H6 ⟨_,vs,rfl,hv,_⟩
   rw [Qb,hv]
   exact Qh _
  ·rintro i zs σ H6 hi ⟨v,rfl⟩ ⟨s6,vs,rfl,hv,hvl⟩ hz
   refine bK ?_
   refine ⟨_,rfl,_,rfl,rp,0+(i:Int),qs,rs,n,ws,hs,rfl,R5.same s6,hlr,ER,hedge,by omega,by omega,by omega,fun fdp H7 fs os s7 hfd e7 T7 C7=>?_⟩
   have T7l:=T7.len
   have hfl:=T7.flen
   have s57:=s6.trans s7
   have hpos:0 < os.length:=(Qd.mp T7.head).1
   refine ⟨fdp,fs,rfl,e7,fun o=>tJ (a:=fdp) (o:=o) (kvs:=fs) (fun σ=>∃ v,σ = [v,some (.ref nx)]) (fun j zs H8=>H8=upd H7 fdp (.frz o (.dK fs))/\zs=((os.take j).map fun o=>ns.getD o.toNat 0).map V.int) (cV (by omega)) ⟨_,rfl⟩ ⟨rfl,rfl⟩ (fun j zs H8 z=>?_) (fun j zs H8 z=>by rw [z.1]; exact aC) ?_ ?_⟩
   ·rw [z.2,Qb,Qb,Ja]
    omega
   ·rintro j zs' σ p H8 hp ⟨v',rfl⟩ ⟨rfl,rfl⟩ hsz
    obtain ⟨ov,hov,hpe⟩:∃ ov,os[j]?=some ov/\p.1=.inl ov:=by
     have e:=congrArg (fun l=>l[j]?) T7.keys
     simp only [Qg] at e
     rw [hp] at e
     cases q:os[j]? with
     | none=>rw [q] at e; cases e
     | some ov=>rw [q] at e; exact ⟨ov,rfl,Option.some.inj e⟩
    obtain ⟨o0,o1⟩:=T7.rng ov (Qe hov)
    have nfx:nx≠fdp:=fun z=>by have:=s6 _ _ nx5; rw [z,hfd] at this; cases this
    have nx8:upd H7 fdp (.frz o (.dK fs)) nx=some (.lst (ns.map V.int)):=by rw [aI nfx]; exact s57 _ _ nx5
    rw [hpe]
    refine bK ?_
    refine ⟨_,rfl,_,rfl,nx,_,ov,_,rfl,rfl,SqL.of nx8,kO o0 (by omega),hsz,⟨_,rfl⟩,rfl,?_⟩
    rw [Jh,hov,Qx,Qx]
    rfl
   ·rintro zs' H8 ⟨rfl,rfl⟩ lp hlp
    rw [hfl,Js] at *
    have nlf:fdp≠lp:=fun z=>by rw [<- z,aC] at hlp; cases hlp
    have hlp7:H7 lp=none:=by rw [aI (Ne.symm nlf)] at hlp; exact hlp
    have s8:aE H7 (upd (upd (upd H7 fdp (.frz o (.dK fs))) lp (.lst ((os.map fun o=>ns.getD o.toNat 0).map V.int))) fdp (.dK fs)):=fun b u hb=>by
     by_cases hbf:b=fdp
     ·rw [hbf] at hb ⊢
      rw [aC,<- e7]; exact hb
     ·rw [aI hbf,aI (fun z=>by rw [z,hlp7] at hb; cases hb),aI hbf]
      exact hb
    have l8:(upd (upd (upd H7 fdp (.frz o (.dK fs))) lp (.lst ((os.map fun o=>ns.getD o.toNat 0).map V.int))) fdp (.dK fs)) lp=some (.lst ((os.map fun o=>ns.getD o.toNat 0).map V.int)):=by
     rw [aI (Ne.symm nlf),aC]
    generalize upd (upd (upd H7 fdp (.frz o (.dK fs))) lp (.lst ((os.map fun o=>ns.getD o.toNat 0).map V.int))) fdp (.dK fs)=H8 at s8 l8 ⊢
    refine ⟨lp,_,rfl,SqL.of l8,by rw [Qb]; exact hpos,fun M hM1 hM2=>⟨hz,⟨_,rfl⟩,s57.trans s8,vs++[M],by rw [Qx]; rfl,by rw [Qk,hv]; rfl,fun j hj=>?_⟩⟩
    by_cases hji:j < i
    ·rw [Qn,Qs (by omega),<- Qn]
     exact hvl j hji
    ·obtain rfl:j=i:=by omega
     rw [Qn,Qw (by omega),hv,Xf]
     show vK cs ws hs j M
     have e0:(0:Int)+(j:Int)=j:=by omega
     rw [e0] at T7
     obtain ⟨o,ho,rfl⟩:=Jm.mp hM1
     obtain ⟨jj,hjj⟩:=Qy.mp ho
     have hor:=T7.rng o ho
     refine ⟨⟨jj,o,T7.rl jj o hjj,hna o hor.1 hor.2⟩,fun k x r=>?_⟩
     have hx:x∈os:=RL.closed (S:=fun x=>x∈os) (fun g w t hg e=>C7 g hg w t e) (Qe T7.head) r
     have hxr:=T7.rng x hx
     rw [<- hna x hxr.1 hxr.2]
     exact hM2 _ (Jm.mpr ⟨x,hx,rfl⟩)
  ·rintro zs H6 ⟨s6,vs,rfl,hv,hvl⟩ lq hlq
   refine ⟨lq,_,rfl,.inl ⟨SqL.of aC,fun pp hpp=>?_⟩⟩
   have s7:=(aE.new (o:=.lst (vs.map V.int)) hlq).trans (aE.new (o:=.tup (vs.map V.int)) hpp)
   have p7:upd (upd H6 lq (.lst (vs.map V.int))) pp (.tup (vs.map V.int)) pp=some (.tup (vs.map V.int)):=aC
   generalize upd (upd H6 lq (.lst (vs.map V.int))) pp (.tup (vs.map V.int))=H7 at s7 p7 ⊢
   have s27:=s25.trans (s6.trans s7)
   refine ⟨_,rfl,_,rfl,_,rfl,.ref a,.ref dp,q,n,ws,cs,hs,rfl,g2.same s27,(s12.trans s27).den _ _ hq,hc,fun H8 s8=>?_⟩
   refine ⟨_,rfl,_,rfl,cV (show 3<=1000 by decide),fun p hp=>?_⟩
   have s9:=aE.new (o:=.tup [.int (iB n cs hs),.ref dp,.ref pp]) hp
   exact k p dp pp hs vs _ (s12.trans (s27.trans (s8.trans s9))) aC ((s27.trans (s8.trans s9)) _ _ hdp) hd ((s8.trans s9) _ _ p7) (PrL.of F0 hedge (fun h hm=>by
    obtain ⟨j,hj⟩:=Qy.mp hm
    exact g2.hand hj) hv hvl)
theorem xQ (n:Nat):inV (.bl false) ((List.replicate n true).map V.bl)=false:=by
 unfold inV
 rw [List.any_eq_false]
 intro x hx
 obtain ⟨b,hb,rfl⟩:=Jm.mp hx
 rw [Zo hb]
 decide
theorem rY (n:Nat):((List.replicate n true).map V.bl).all lJ=true:=by
 rw [Jd]
 intro x hx
 obtain ⟨b,hb,rfl⟩:=Jm.mp hx
 rfl
theorem oT {b:Bool} {A B:Prop} (e:b=false) (h:B):if b=true then A else B:=by subst e; exact eE h
theorem pH (v:V):(!decide (v=v))=false:=by simp
theorem aC4 {B:Int} (hB:0<=B):∀ {l:List Int},(∀ c∈l,0<=c/\c<=B)->0<=aM l/\aM l<=B*l.length
 | [],_=>⟨Jq _,by simp [L2.aM]⟩
 | x::l,h=>by
  have h1:=h x (Qq ..)
  have h2:=aC4 hB fun c hc=>h c (Qr _ hc)
  rw [show aM (x::l)=x+aM l from rfl,Jv,Xn,Zx]
  show _/\_<=B*l.length+B*1
  rw [Yw]
  omega
theorem aDY {n:Int} {m:Nat} {cs:List (List Int)} {hs:List Int} (hc:cB n m cs) (hm:m<=12) (hn:n<=6):0<=iB n cs hs/\iB n cs hs < 1000000:=by
 unfold iB
 have:=aC4 (B:=12000) (by decide) (l:=(cZ n.toNat).map fun h=>aM ((cs.getD h.toNat []).take (hs.count h))) fun c hcm=>by
  obtain ⟨h,hh,rfl⟩:=Jm.mp hcm
  unfold cZ at hh
  obtain ⟨i,hi,rfl⟩:=Jm.mp hh
  have hi':=Jr.mp hi
  have hrow:=kP (h:=(i:Int)) hc (by omega) (by omega)
  have:=lC (l:=(dY cs (i:Int)).take (hs.count (i:Int))) fun c h=>hrow.2.1 c (Xb h)
  have hl:((dY cs (i:Int)).take (hs.count (i:Int))).length<=12:=by rw [Ja,hrow.1]; omega
  unfold dY at this hl
  omega
 rw [Qb,fV] at this
 omega
def xR:Sp:=fun vs H Q _=>∃ i:Int,vs = [.int i]/\Q (.bl true) H
theorem aC5:FnScope ["found"] ["found"] (aF oZ):=⟨rfl,rfl,rfl,by decide +kernel,rfl,by decide +kernel,by decide +kernel⟩
theorem aBA {f:Addr} {fd:FuncData} (G:Fn K mg "_law_awhole" oZ ["found"] f fd) (B:Bl mg):FnOk P w K mg base CX0 1 f fd ["found"] xR:=by
 refine G.fn.ok aC5 (fun vs H Q E h=>?_) (fun cdv A outer s H vs Q E hr h=>?_)
 ·obtain ⟨i,rfl,_⟩:=h
  rfl
 ·obtain ⟨i,rfl,k⟩:=h
  refine ⟨_,(aG (aO (jI (aK mH rfl B.isinstance iA (aA (pv 0) (aA (dO (v:=.ty "int") rfl B.int aEc rfl) aB))) (jH (aBJ (aK lK rfl B.isinstance iA (aA (pv 0) (aA (dO (v:=.ty "bool") rfl B.bool aCs rfl) aB)))))))),?_⟩
  refine ⟨_,rfl,.int i,.int,rfl,rfl,_,rfl,?_⟩
  refine gQ ?_
  exact ⟨_,rfl,.int i,.int,rfl,rfl,_,rfl,k⟩
def aAJ (K:PySem.W.Frag):Sp:=fun vs H Q _=>∃ (x y:V) (q:Addr) (n:Int) (ws cs:List (List Int)) (hs:List Int),vs = [x,.ref q,y]/\dM K H x y n ws hs/\Den K H (gH cs) (.ref q)/\cB n ws.length cs/\∀ H',aE H H'->Q (.int (iB n cs hs)) H'
theorem aAK:FnScope ["book", "costs", "deal", "heaps"] ["book", "costs", "deal"] (aF qO):=⟨rfl,rfl,rfl,by decide +kernel,rfl,by decide +kernel,by decide +kernel⟩
theorem aC6 {f fH:Addr} {fd dH:FuncData} (G:Fn K mg "_law_acost" qO ["book", "costs", "deal"] f fd) (B:Bl mg) (GHp:Fn K mg "_law_aheaps" mV ["book", "weights", "deal"] fH dH):FnOk P w K mg base CX0 2 f fd ["book", "costs", "deal"] (aAJ K):=by
 have OHp:FnOk P w K mg base CX0 1 fH dH ["book", "weights", "deal"] (rD K):=tR GHp B
 refine G.fn.ok aAK (fun vs H Q E h=>?_) (fun cdv A outer s H vs Q E hr h=>?_)
 ·obtain ⟨x,y,q,n,ws,cs,hs,rfl,_⟩:=h
  rfl
 ·obtain ⟨x,y,q,n,ws,cs,hs,rfl,g,hq,hc,k⟩:=h
  have r1:Room 1 _:=hr
  refine ⟨_,(aD (aY (i:=3) aAK.nd rfl (Or.inr rfl) (aT GHp OHp r1 rfl (aA (pv 0) (aA (cL (uV (K:=K) rfl) (gN (aA aJ aB)) (aK aS rfl B.len cU (aA (pv 2) aB))) (aA (pv 2) aB)))))
  (aG (aO (aK (pR rfl) rfl B.sum wQ (aA (bR (own:=["hand"]) (fr:=[1,3]) (frn:=["costs", "heaps"]) (aV (aF qO) ["book", "costs", "deal", "heaps"] rfl rfl (by decide +kernel)) rfl (cK rfl B.range (aA (aU aZ (pv 0) aJ (fun _ _=>rfl)) aB))
    (fun _ _ _ _=>(aH (i:=0) (show (["hand", "costs", "heaps"]:List Str).Nodup by decide +kernel) rfl (Or.inl rfl))) (fun _ _ _ _=>cA)
    (fun _ _ _ _=>(aK (qE (K:=K) rfl rfl) rfl B.sum wQ (aA (kF (pV (K:=K) rfl) (aU (eD (K:=K) rfl) (pv 1) (pv 0) (fun _ _=>rfl)) mD (mE (aU (wD (K:=K) rfl) (pv 2) (pv 0) (fun _ _=>rfl)))) aB)))) aB))))),?_⟩
  obtain ⟨hn1,hn6,hw12,hws⟩:=bC g.2.1
  have hlen:=nF g
  obtain ⟨ba,bb,ys,rfl,ha,hb2,hys⟩:=bS g.1
  obtain ⟨dp,rfl,hdp⟩:=aP.mp g.2.2.1
  obtain ⟨q',rs,e,hq1,hrs⟩:=bH.mp hq
  obtain rfl:q=q':=by injection e
  obtain ⟨hl1,hl2,hfit⟩:=lD hn6 hw12 hlen hc
  refine ⟨_,rfl,sz1 _,fun o1 ho1=>?_⟩
  have s1:=aE.new (o:=.tup [.int 1]) ho1
  refine ⟨_,rfl,dp,_,rfl,.inr (s1.seqT hdp),o1,(hs.map V.int).length,[.int 1],rfl,rfl,SqT.of aC,by rw [Qb]; omega,by decide,fun o2 H2 s2 ho2=>?_⟩
  have s12:=s1.trans s2
  have ho2':SqT K H2 o2 ((List.replicate hs.length (1:Int)).map V.int):=by
   rw [Xh,Qb] at ho2
   rw [Yq]
   exact ho2
  refine ⟨_,rfl,.ref ba,.ref dp,o2,n,ws,hs,rfl,g.same s12,ho2',fun hpp H3 s3 hfr hhp=>?_⟩
  have s03:=s12.trans s3
  refine ⟨_,rfl,ba,_,0,.int n,rfl,rfl,s03.seqT ha,rfl,n,rfl,by omega,by omega,eC (lo:=0) (n:=n.toNat) (fun σ=>∃ v,σ = [v,some (.ref q),some (.ref hpp)]) (fun i zs H4=>aE H3 H4/\∃ ns:List Int,zs=ns.map V.int/\ns.length=i/\(∀ c∈ns,0<=c/\c < 1000000)/\ns=((cZ n.toNat).take i).map fun h=>aM ((cs.getD h.toNat []).take (hs.count h))) (cV (by omega)) ⟨none,rfl⟩ ⟨aE.refl _,[],rfl,rfl,fun _ h=>(Qo h).elim,rfl⟩ ?_ ?_ ?_⟩
  ·rintro i zs H4 ⟨_,ns,rfl,hn,_⟩
   rw [Qb,hn]
   exact Qh _
  ·rintro i zs σ H4 hi ⟨v,rfl⟩ ⟨s4,ns,rfl,hn,hns,hnv⟩ hz
   have s04:=s03.trans s4
   have hic:i < cs.length:=by rw [hc.1]; exact hi
   have e1:cs[i]?=some cs[i]:=Qc hic
   obtain ⟨xv,h1,h2⟩:=iK hrs (show (cs.map bO)[i]?=some (bO cs[i]) by rw [Qg,e1]; rfl)
   obtain ⟨aw,rfl,haw⟩:=aP.mp h2
   have e2:=dJ (n:=n) (hs:=hs) hi
   obtain ⟨f1,f2,f3⟩:=hfit i _ _ e1 e2
   generalize cs[i]=row at e1 h2 haw f2 f3
   generalize hln:hs.count (i:Int)=ln at e2 f1 f2
   refine bK ?_
   refine ⟨_,rfl,_,rfl,q,rs,0+(i:Int),.ref aw,rfl,rfl,s04.seqT hq1,by rw [Xp]; exact cI h1,?_⟩
   refine ⟨_,rfl,_,rfl,hpp,_,0+(i:Int),.int (ln:Int),rfl,rfl,SqL.of (s4 _ _ hhp),by rw [Xp]; exact cI (by rw [Qg,e2]; rfl),?_⟩
   refine ⟨_,rfl,aw,_,rfl,s04.seqT haw,fun q1 H6 s6 hq1'=>?_⟩
   rw [uJ,<- Wq] at hq1'
   have hrng:=(hc.2 row (Qe e1)).2.1
   have hb:∀ c∈row.take ln,0<=c/\c<=999:=fun c hcm=>hrng c (Xb hcm)
   have hsb:=lC hb
   have htl:(row.take ln).length<=12:=by rw [Ja]; omega
   refine ⟨q1,row.take ln,rfl,hq1',fun c hcm=>by have:=hb c hcm; omega,by omega,hz,⟨_,rfl⟩,s4.trans s6,ns++[aM (row.take ln)],by rw [Qx]; rfl,by rw [Qk,hn]; rfl,fun c hcm=>?_,?_⟩
   ·rcases Jk.mp hcm with h | h
    ·exact hns c h
    ·rw [Qu.mp h]; omega
   ·rw [Jh,kM hi,Qx,hnv]
    show _=_++[aM ((cs.getD (i:Int).toNat []).take (hs.count (i:Int)))]
    rw [hln,Jw,Qn,e1]
    rfl
  ·rintro zs H4 ⟨s4,ns,rfl,hn,hns,hnv⟩ z hz
   refine ⟨z,ns,rfl,SqL.of aC,hns,by omega,?_⟩
   rw [hnv,Jf (by rw [fV]; exact Qh _)]
   exact k _ (s03.trans (s4.trans (aE.new hz)))
structure ToldC (K:PySem.W.Frag) (H:Hp) (x:V) (q p dp pp dl:Addr) (n:Int) (ws cs:List (List Int)) (hs ps:List Int) (xs:List V):Prop where
 bk:Den K H (bY n ws) x
 ok:cG (bY n ws)=true
 co:Den K H (gH cs) (.ref q)
 cok:cB n ws.length cs
 tp:H p=some (.tup [.int (iB n cs hs),.ref dp,.ref pp])
 dd:H dp=some (.tup (hs.map V.int))
 deal:cR ws (cM hs)=true
 pr:H pp=some (.tup (ps.map V.int))
 prl:PrL n cs ws hs ps
 ls:H dl=some (.lst xs)
 all:∀ z∈xs,∃ hs',dM K H x z n ws hs'
theorem ToldC.good {H:Hp} {x:V} {q p dp pp dl:Addr} {n:Int} {ws cs:List (List Int)} {hs ps:List Int} {xs:List V} (t:ToldC K H x q p dp pp dl n ws cs hs ps xs):dM K H x (.ref dp) n ws hs:=⟨t.bk,t.ok,aP.mpr ⟨dp,rfl,SqT.of t.dd⟩,t.deal⟩
theorem ToldC.same {H H':Hp} {x:V} {q p dp pp dl:Addr} {n:Int} {ws cs:List (List Int)} {hs ps:List Int} {xs:List V} (t:ToldC K H x q p dp pp dl n ws cs hs ps xs) (s:aE H H'):ToldC K H' x q p dp pp dl n ws cs hs ps xs :=
 ⟨s.den _ _ t.bk,t.ok,s.den _ _ t.co,t.cok,s _ _ t.tp,s _ _ t.dd,t.deal,s _ _ t.pr,t.prl,s _ _ t.ls,fun z hz=>let ⟨h',g⟩:=t.all z hz; ⟨h',g.same s⟩⟩
def xS (K:PySem.W.Frag):Sp:=fun vs H Q _=>∃ (x:V) (q p dp pp dl:Addr) (n:Int) (ws cs:List (List Int)) (hs ps:List Int) (xs:List V),vs = [x,.ref q,.ref p,.ref dl]/\ToldC K H x q p dp pp dl n ws cs hs ps xs/\xs.length<=5/\∀ H',aE H H'->Q (.bl true) H'
theorem kR:FnScope ["book", "costs", "found", "deals", "cost", "deal", "prices", "other"] ["book", "costs", "found", "deals"] (aF lB):=⟨rfl,rfl,rfl,by decide +kernel,rfl,by decide +kernel,by decide +kernel⟩
set_option maxHeartbeats 2000000 in
theorem aBB {f fA fC fAA fCF fAP:Addr} {fd dA dC dAA dCF dAP:FuncData} (G:Fn K mg "_law_aright" lB ["book", "costs", "found", "deals"] f fd) (B:Bl mg) (GAw:Fn K mg "_law_awhole" oZ ["found"] fA dA) (GAc:Fn K mg "_law_acost" qO ["book", "costs", "deal"] fC dC) (OAc:FnOk P w K mg base CX0 2 fC dC ["book", "costs", "deal"] (aAJ K))
  (GAA:Fn K mg "_law_aare_prices" mX ["book", "costs", "deal", "prices"] fAA dAA) (OAA:FnOk P w K mg base CX0 2 fAA dAA ["book", "costs", "deal", "prices"] (wY K)) (GCF:Fn K mg "cost_of" kZ ["book", "costs", "deal"] fCF dCF) (OCF:FnOk P w K mg base CX0 7 fCF dCF ["book", "costs", "deal"] (rB K))
  (GAP:Fn K mg "are_prices" lU ["book", "costs", "deal", "prices"] fAP dAP) (OAP:FnOk P w K mg base CX0 7 fAP dAP ["book", "costs", "deal", "prices"] (aAw K)):FnOk P w K mg base CX0 8 f fd ["book", "costs", "found", "deals"] (xS K):=by
 have OAw:FnOk P w K mg base CX0 1 fA dA ["found"] xR:=aBA GAw B
 refine G.fn.ok kR (fun vs H Q E h=>?_) (fun cdv A outer s H vs Q E hr h=>?_)
 ·obtain ⟨x,q,p,dp,pp,dl,n,ws,cs,hs,ps,xs,rfl,_⟩:=h
  rfl
 ·obtain ⟨x,q,p,dp,pp,dl,n,ws,cs,hs,ps,xs,rfl,T,hx5,k⟩:=h
  have r1:Room 1 _:=hr.mono (by decide)
  have r2:Room 2 _:=hr.mono (by decide)
  have r7:Room 7 _:=hr
  refine ⟨_,(aD (bT (PW.pt (gA (cF (cJ (aK bN rfl B.isinstance iA (aA (pv 2) (aA (dO (v:=.ty "tuple") rfl B.tuple bV rfl) aB))))) (gA (bB gW (aK aS rfl B.len cU (aA (pv 2) aB)) aJ (bE _)) (eT (cF (cJ (aT GAw OAw r1 rfl (aA (aU aZ (pv 2) aJ (fun _ _=>rfl)) aB))))))))
   (aG (aO cE))
   aW)
  (aD (iG (pv 2) (eU rfl (aQ (aH (i:=4) kR.nd rfl (Or.inl rfl)) (aQ (aH (i:=5) kR.nd rfl (Or.inr rfl)) (aQ (aH (i:=6) kR.nd rfl (Or.inl rfl)) cH)))))
  (aD (bT (PW.pt (gA (cF (cJ (aK bN rfl B.isinstance iA (aA (pv 5) (aA (dO (v:=.ty "tuple") rfl B.tuple bV rfl) aB))))) (gA (bB gW (aK aS rfl B.len cU (aA (pv 5) aB)) (aK aS rfl B.len cU (aA (aU aZ (pv 0) aJ (fun _ _=>rfl)) aB)) (bE _)) (eT (cF (cJ (aK bN rfl B.isinstance iA (aA (pv 6) (aA (dO (v:=.ty "tuple") rfl B.tuple bV rfl) aB)))))))))
   (aG (aO cE))
   aW)
  (aD (bT (bB iU cE (bR (own:=["at"]) (fr:=[0,5]) (frn:=["book", "deal"]) (aV (aF lB) ["book", "costs", "found", "deals", "cost", "deal", "prices", "other"] rfl rfl (by decide +kernel)) rfl (cK rfl B.range (aA (aK aS rfl B.len cU (aA (pv 5) aB)) aB))
    (fun _ _ _ _=>(aH (i:=0) (show (["at", "book", "deal"]:List Str).Nodup by decide +kernel) rfl (Or.inl rfl))) (fun _ _ _ _=>cA)
    (fun _ _ _ _=>(jI (aT GAw OAw r1 rfl (aA (aU (eD (K:=K) rfl) (pv 2) (pv 0) (fun _ _=>rfl)) aB)) (jH (eX (qQ (K:=K) rfl) (aU (eD (K:=K) rfl) (pv 2) (pv 0) (fun _ _=>rfl)) (aU (eD (K:=K) rfl) (aU (eD (K:=K) rfl) (pv 1) aJ (fun _ _=>rfl)) (pv 0) (fun _ _=>rfl)) (by with_unfolding_all rfl)))))) (by with_unfolding_all rfl))
   (aG (aO cE))
   aW)
  (aD (bT (PW.pt (gA (bB iU cE (bR (own:=["price"]) (fr:=[]) (frn:=[]) (aV (aF lB) ["book", "costs", "found", "deals", "cost", "deal", "prices", "other"] rfl rfl (by decide +kernel)) rfl (eL (pv 6))
    (fun _ _ _ _=>(aH (i:=0) (show (["price"]:List Str).Nodup by decide +kernel) rfl (Or.inl rfl))) (fun _ _ _ _=>cA)
    (fun _ _ _ _=>(aT GAw OAw r1 rfl (aA (pv 0) aB)))) (by with_unfolding_all rfl)) (eT (bB gW (aT GAc OAc r2 rfl (aA (pv 0) (aA (pv 1) (aA (pv 5) aB)))) (pv 4) (bE _)))))
   (aG (aO cE))
   aW)
  (aD (bT (PW.pt (gA (cF (cJ (aT GAA OAA r2 rfl (aA (pv 0) (aA (pv 1) (aA (pv 5) (aA (pv 6) aB))))))) (eT (bB gW (aK qF rfl B.repr aCu (aA (aT GCF OCF r7 rfl (aA (pv 0) (aA (pv 1) (aA (pv 5) aB)))) aB)) (aK qF rfl B.repr aCu (aA (pv 4) aB)) (bE _)))))
   (aG (aO cE))
   aW)
  (aD (dZ PassesOwn.never rfl (jJ (pv 3)) (aH (i:=7) kR.nd rfl (Or.inl rfl))
   (aG (bT (PW.pt (gA (bB gW (aT GCF OCF r7 rfl (aA (pv 0) (aA (pv 1) (aA (pv 7) aB)))) (aT GAc OAc r2 rfl (aA (pv 0) (aA (pv 1) (aA (pv 7) aB)))) (bE _)) (eT (bB oI (aT GAc OAc r2 rfl (aA (pv 0) (aA (pv 1) (aA (pv 7) aB)))) (pv 4) (bE _)))))
   (aG (aO cE))
   aW)))
  (aG (aO (eX aEI (aT GAP OAP r7 rfl (aA (pv 0) (aA (pv 1) (aA (pv 5) (aA (pv 6) aB))))) cE (bE _))))))))))),?_⟩
  obtain ⟨hn1,hn6,hw12,hws⟩:=bC T.ok
  obtain ⟨hdl,hdm⟩:=bF T.deal
  obtain ⟨a,b,ys,ex,ha,hb2,hys⟩:=bS T.bk
  have hlw:=aN hys
  rw [Qb] at hlw
  subst ex
  refine ⟨_,rfl,.ref p,.tup,rfl,.inr (.inl ⟨rfl,_,SqT.of T.tp⟩),_,rfl,?_⟩
  refine eE ?_
  refine ⟨_,rfl,p,_,rfl,.inr (SqT.of T.tp),rfl,_,rfl,?_⟩
  refine eE ?_
  refine ⟨_,rfl,p,_,0,_,rfl,rfl,SqT.of T.tp,rfl,_,rfl,_,rfl,?_⟩
  refine eE ?_
  refine ⟨_,rfl,p,_,rfl,SqT.of T.tp,rfl,_,_,rfl,_,_,rfl,_,_,rfl,rfl,?_⟩
  refine ⟨_,rfl,.ref dp,.tup,rfl,.inr (.inl ⟨rfl,_,SqT.of T.dd⟩),_,rfl,?_⟩
  refine eE ?_
  refine ⟨_,rfl,dp,_,rfl,.inr (SqT.of T.dd),_,rfl,a,_,1,.ref b,rfl,rfl,ha,rfl,b,_,rfl,.inr hb2,rfl,_,rfl,?_⟩
  rw [show (!decide (V.int ((hs.map V.int).length:Int)=V.int (ys.length:Int)))=false by rw [Qb,hdl,hlw]; simp]
  refine eE ?_
  refine ⟨_,rfl,.ref pp,.tup,rfl,.inr (.inl ⟨rfl,_,SqT.of T.pr⟩),_,rfl,?_⟩
  refine eE ?_
  refine ⟨_,rfl,dp,_,rfl,.inr (SqT.of T.dd),?_⟩
  rw [Qb]
  refine ⟨hs.length,rfl,by omega,by omega,eC (lo:=0) (n:=((hs.length:Int)).toNat) (fun σ=>∃ v,σ = [v,some (.ref a),some (.ref dp)]) (fun i zs H1=>H1=H/\zs=(List.replicate i true).map V.bl) (cV (by omega)) ⟨none,rfl⟩ ⟨rfl,rfl⟩ ?_ ?_ ?_⟩
  ·rintro i zs H1 ⟨_,rfl⟩
   rw [Qb,Ji]
   exact Qh _
  ·rintro i zs σ H1 hi ⟨v,rfl⟩ ⟨rfl,rfl⟩ hz
   have hi':i < hs.length:=by omega
   have hh:hs[i]?=some hs[i]:=Qc hi'
   have hiw:i < ws.length:=by omega
   have hw:ws[i]?=some ws[i]:=Qc hiw
   have hm:=hdm i _ _ hh hw
   generalize hs[i]=h at hh hm
   generalize ws[i]=l at hw hm
   obtain ⟨xv,h1,h2⟩:=iK hys (show (ws.map bO)[i]?=some (bO l) by rw [Qg,hw]; rfl)
   obtain ⟨aw,rfl,haw⟩:=aP.mp h2
   have hat:atI (hs.map V.int) (0+(i:Int))=some (.int h):=by rw [Xp]; exact cI (by rw [Qg,hh]; rfl)
   have hat2:atI ys (0+(i:Int))=some (.ref aw):=by rw [Xp]; exact cI h1
   refine bK ?_
   refine ⟨_,rfl,_,rfl,dp,_,_,_,rfl,rfl,SqT.of T.dd,hat,h,rfl,_,rfl,?_⟩
   refine gQ ?_
   refine ⟨_,rfl,_,rfl,dp,_,_,_,rfl,rfl,SqT.of T.dd,hat,_,rfl,a,_,1,.ref b,rfl,rfl,ha,rfl,_,rfl,b,_,_,_,rfl,rfl,hb2,hat2,aw,_,rfl,.inr haw,rfl,nX l,hz,⟨_,rfl⟩,rfl,?_⟩
   rw [vE,Zk.mpr ⟨h,hm,by simp⟩,Yd,Qx]
   rfl
  ·rintro zs H1 ⟨rfl,rfl⟩ z hz
   refine ⟨z,_,rfl,.inl (SqL.of aC),rfl,rY _,_,rfl,?_⟩
   refine oT (xQ _) ?_
   have sz:=aE.new (o:=.lst ((List.replicate ((hs.length:Int)).toNat true).map V.bl)) hz
   generalize upd H1 z (.lst ((List.replicate ((hs.length:Int)).toNat true).map V.bl))=H2 at sz ⊢
   have T2:=T.same sz
   have hpl:=T.prl.len
   refine ⟨_,rfl,pp,rfl,⟨_,SqT.of T2.pr⟩,gY (K:=K) (a:=pp) (xs:=ps.map V.int) (fun σ=>∃ v,σ = [v]) (fun i zs H3=>H3=H2/\zs=(List.replicate i true).map V.bl) (cV (by rw [Qb]; omega)) ⟨none,rfl⟩ ⟨rfl,rfl⟩ (fun i zs H3 z=>by rw [z.2,Qb,Ji]; exact Qh _) (fun i zs H3 z=>by rw [z.1]; exact SqT.of T2.pr) ?_ ?_⟩
   ·rintro i zs σ u H3 hu ⟨v,rfl⟩ ⟨rfl,rfl⟩ hzz
    obtain ⟨pv,hpv,rfl⟩:=iO hu
    refine bK ?_
    refine ⟨_,rfl,pv,rfl,hzz,⟨_,rfl⟩,rfl,?_⟩
    rw [Yd,Qx]
    rfl
   ·rintro zs H3 ⟨rfl,rfl⟩ z2 hz2
    refine ⟨z2,_,rfl,.inl (SqL.of aC),rfl,rY _,_,rfl,?_⟩
    refine oT (xQ _) ?_
    have sz2:=aE.new (o:=.lst ((List.replicate (ps.map V.int).length true).map V.bl)) hz2
    generalize upd H3 z2 (.lst ((List.replicate (ps.map V.int).length true).map V.bl))=H4 at sz2 ⊢
    have T4:=T2.same sz2
    refine ⟨_,rfl,_,rfl,_,rfl,.ref a,.ref dp,q,n,ws,cs,hs,rfl,T4.good,T4.co,T4.cok,fun H5 s5=>⟨_,rfl,rfl,_,rfl,?_⟩⟩
    refine oT (pH _) ?_
    have T5:=T4.same s5
    have hall:=T.prl.all T.cok hdl hdm
    refine ⟨_,rfl,_,rfl,_,rfl,_,rfl,.ref a,.ref dp,q,pp,n,ws,cs,hs,ps,rfl,T5.good,T5.co,T5.cok,SqT.of T5.pr,fun H6 s6=>⟨_,rfl,?_⟩⟩
    rw [hall]
    refine eE ?_
    have T6:=T5.same s6
    have hsh:=aDY (hs:=hs) T.cok hw12 hn6
    refine ⟨_,rfl,_,rfl,_,rfl,.ref a,.ref dp,q,n,ws,cs,hs,rfl,T6.good,T6.co,T6.cok,fun H7 s7=>⟨_,rfl,qG hsh.1 hsh.2,_,rfl,_,rfl,qG hsh.1 hsh.2,rfl,_,rfl,?_⟩⟩
    refine oT (pH _) ?_
    have T7:=T6.same s7
    have s17:=sz.trans (sz2.trans (s5.trans (s6.trans s7)))
    refine ⟨_,rfl,dl,rfl,⟨_,SqL.of T7.ls⟩,mB (K:=K) (a:=dl) (xs:=xs) (fun j σ H8=>(∃ v7,σ = [some (.ref a),some (.ref q),some (.ref p),some (.ref dl),some (.int (iB n cs hs)),some (.ref dp),some (.ref pp),v7])/\aE H7 H8) ⟨⟨_,rfl⟩,aE.refl _⟩ (fun j σ H8 _ z=>SqL.of (z.2 _ _ T7.ls)) ?_ ?_⟩
    ·rintro j u σ H8 hu ⟨⟨v7,rfl⟩,s8⟩
     have T8:=T7.same s8
     obtain ⟨hs',g'⟩:=T8.all u (Qe hu)
     refine ⟨_,rfl,_,rfl,_,rfl,.ref a,u,q,n,ws,cs,hs',rfl,g',T8.co,T8.cok,fun H9 s9=>?_⟩
     have T9:=T8.same s9
     refine ⟨_,rfl,_,rfl,_,rfl,.ref a,u,q,n,ws,cs,hs',rfl,g'.same s9,T9.co,T9.cok,fun H10 s10=>⟨rfl,_,rfl,?_⟩⟩
     refine oT (pH _) ?_
     have T10:=T9.same s10
     have s810:=s9.trans s10
     refine ⟨_,rfl,_,rfl,_,rfl,.ref a,u,q,n,ws,cs,hs',rfl,g'.same s810,T10.co,T10.cok,fun H11 s11=>⟨_,rfl,_,_,rfl,rfl,_,rfl,?_⟩⟩
     have hle:=T.prl.least (hs':=hs') T.cok hdl (bF g'.2.2.2).1 (jG T.ok T.deal) (jG T.ok g'.2.2.2) (bF g'.2.2.2).2
     refine oT (decide_eq_false (by omega)) ?_
     exact ⟨⟨_,rfl⟩,s8.trans (s810.trans s11)⟩
    ·rintro σ H8 ⟨⟨v7,rfl⟩,s8⟩
     have T8:=T7.same s8
     refine ⟨_,rfl,_,rfl,_,rfl,_,rfl,.ref a,.ref dp,q,pp,n,ws,cs,hs,ps,rfl,T8.good,T8.co,T8.cok,SqT.of T8.pr,by omega,fun H9 s9=>?_⟩
     rw [hall]
     exact ⟨true,true,rfl,rfl,k _ (s17.trans (s8.trans s9))⟩
end
end Ab
namespace L2
open PySem
theorem aDZ {X:Cx} {K:PySem.W.Frag} {e st:Expr} {te ts:TE} {pos p2:Pos} (hK:X.K=K) (he:PE X e te) (hst:PE X st ts):PE X (.Subscript e (.Slice none none (some st) p2) pos) (aFo K te ts):=by subst hK; exact yJ he hst
end L2
namespace Ab
open PySem L2
section
variable {P:Program} {w:World} {K:PySem.W.Frag} {mg:Str->Option Value} {base:Heap}
variable {fW fH fK fB fNB fD fND fL:Addr} {dW dH dK dB dNB dD dND dL:FuncData}
theorem oH {t a:Addr} {H H':Hp} {xs:List V} (ht:H t=none) (b:But t H H') (h:SqL K H a xs):SqL K H' a xs:=by
 rcases h with (h | ⟨o,h⟩) | h
 ·exact .inl (.inl (b _ _ (fun z=>by rw [z,ht] at h; cases h) h))
 ·exact .inl (.inr ⟨o,b _ _ (fun z=>by rw [z,ht] at h; cases h) h⟩)
 ·exact .inr h
theorem lZ {H:Hp}:∀ {ds:List PyData} {vs:List V},bA K H ds vs->bA K H ds.reverse vs.reverse
 | [],vs,h=>by rw [bD.mp h]; exact bD.mpr rfl
 | d::ds,vs,h=>by
  obtain ⟨v,r,rfl,h1,h2⟩:=aX.mp h
  rw [Zu,Zu]
  exact eW (lZ h2) (aX.mpr ⟨v,[],rfl,h1,bD.mpr rfl⟩)
theorem aBC {n:Int} {m:Nat} {cs:List (List Int)} (h:cB n m cs):cB n m cs.reverse:=⟨by rw [Jt]; exact h.1,fun row hr=>h.2 row (Yz.mp hr)⟩
theorem aFH:bootBuiltins "max" = some (.builtin "max"):=by decide +kernel
theorem aD0 {t u:TS} {D:Ends} {σ:St} {H:Hp} (I:St->Hp->Prop) (h1:∀ N:St->Hp->Prop,(∀ σ' H',I σ' H'->N σ' H')->t { D with nx:=N } σ H) (h2:∀ σ' H',I σ' H'->u D σ' H'):aE4 t u D σ H:=h1 _ h2
theorem jN {H:Hp} {d:PyData} {v:V} (h:Den K H d v):∀ k:Nat,bA K H (List.replicate k d) (List.replicate k v)
 | 0=>bD.mpr rfl
 | k+1=>aX.mpr ⟨v,List.replicate k v,rfl,h,jN h k⟩
theorem aBD (m:Nat):mS 1 m=(List.range m).map fun i=>((i:Nat):Int)+1:=by
 unfold mS
 exact Yi fun i _=>Int.add_comm _ _
theorem uA {nn m:Nat} (hm:m<=12):cB (nn:Int) m (List.replicate nn (mS 1 m))/\iT (nn:Int) m (List.replicate nn (mS 1 m)):=by
 refine ⟨⟨by rw [Ji]; omega,fun row hr=>?_⟩,fun h h0 h1=>?_⟩
 ·rw [Zo hr]
  unfold mS
  refine ⟨by rw [Qb,Zg],fun c hc=>?_,?_⟩
  ·obtain ⟨i,hi,rfl⟩:=Jm.mp hc
   have:=Jr.mp hi
   omega
  ·rw [List.pairwise_map]
   exact List.pairwise_lt_range.imp fun {a b} h=>by omega
 ·unfold dY
  rw [Qn,Jp,if_pos (by omega),<- aBD]
  rfl
theorem aD1 {n:Int} {m:Nat} {cs:List (List Int)} (hl:cs.length=n.toNat) (O:iT n m cs):iT n m cs.reverse:=fun h h0 h1=>by
 have:=O (n - 1 - h) (by omega) (by omega)
 unfold dY at this ⊢
 rw [Qn,Zd (by omega),hl,show n.toNat - 1 - h.toNat=(n - 1 - h).toNat by omega,<- Qn]
 exact this
theorem aC7 {ws:List (List Int)} {hs:List Int} (h:cR ws (cM hs)=true):cR ws.reverse (cM hs.reverse)=true:=by
 obtain ⟨hl,hm⟩:=bF h
 refine jR (by rw [Jt,Jt,hl]) fun j g l e1 e2=>?_
 have hj:j < hs.length:=by have:=(Qd.mp e1).1; rwa [Jt] at this
 rw [Zd hj] at e1
 rw [Zd (by omega),<- hl] at e2
 exact hm _ g l e1 e2
theorem aC8 {n:Int} {ws:List (List Int)} (h:cG (bY n ws)=true):cG (bY n ws.reverse)=true:=by
 obtain ⟨h1,h2,h3,h4⟩:=bC h
 exact vG h1 h2 (by rw [Jt]; exact h3) fun l hl=>h4 l (Yz.mp hl)
def pI (H:Hp) (n:Int) (ws:List (List Int)) (two:Prop) (v:Option V):Prop:=∃ (cs:List (List Int)) (p dp pp:Addr) (hs ps:List Int),v=some (.ref p)/\(two->iT n ws.length cs)/\H p=some (.tup [.int (iB n cs hs),.ref dp,.ref pp])/\H dp=some (.tup (hs.map V.int))/\cR ws (cM hs)=true/\PrL n cs ws hs ps
theorem pI.same {H H':Hp} {n:Int} {ws:List (List Int)} {two:Prop} {v:Option V} (h:pI H n ws two v) (s:aE H H'):pI H' n ws two v:=by
 obtain ⟨cs,p,dp,pp,hs,ps,h1,h2,h3,h4,h5⟩:=h
 exact ⟨cs,p,dp,pp,hs,ps,h1,h2,s _ _ h3,s _ _ h4,h5⟩
theorem xT {n:Int} {ws cs:List (List Int)} {hs hs' ps lv ms ys:List Int} (hb:cG (bY n ws)=true) (hd:cR ws (cM hs)=true) (hd':cR ws (cM hs')=true) (V:PrL n cs ws hs ps) (O:iT n ws.length cs) (L:gJ n ws hs' lv)
  (hm:ms.Perm (aL n hs)) (hy:ys.Perm (aL n hs')) (sm:ms.Pairwise (·≥·)) (sy:ys.Pairwise (·≥·)):ms=ys:=by
 obtain ⟨_,_,_,hws⟩:=bC hb
 refine zN (by rw [bJ,bJ]) (V.levels O (bF hd).1 (bF hd').1 (jG hb hd) (jG hb hd') (fun g w t e=>?_) (bF hd').2) (zM hb hd' hd L) hm hy sm sy
 obtain ⟨_,l,h1,h2,_⟩:=e
 exact (bL (hws l (Qe h1))).2.1 t h2
theorem kS (l:List Int):∃ ms:List Int,ms.Perm l/\ms.Pairwise (·≥·):=⟨l.mergeSort (fun a b=>decide (a≥b)),List.mergeSort_perm _ _,(List.pairwise_mergeSort (le:=fun a b=>decide (a≥b)) (by intro a b c h1 h2; simp at *; omega) (by intro a b; simp; omega) l).imp fun h=>by simpa using h⟩
theorem aBE {n:Int} {ws cs:List (List Int)} {hs hs' ps lv:List Int} (hb:cG (bY n ws)=true) (hd:cR ws (cM hs)=true) (hd':cR ws (cM hs')=true) (V:PrL n cs ws hs ps) (O:iT n ws.length cs) (L:gJ n ws hs' lv):iB n cs hs=qS n hs':=by
 rw [aC0 O (bF hd).1]
 obtain ⟨ms,m1,m2⟩:=kS (aL n hs)
 obtain ⟨ys,y1,y2⟩:=kS (aL n hs')
 have e:=xT hb hd hd' V O L m1 y1 m2 y2
 subst e
 unfold qS
 exact rR ((m1.symm.trans y1).map _)
def aAL (K:PySem.W.Frag) (P1 P2:Addr):Sp:=fun vs H Q _=>∃ (a:Addr) (ns:List Int),vs = [.ref a]/\SqL K H a (ns.map V.int)/\H P1=some (.tab xC)/\H P2=some (.tab xD)/\∀ H',H' P1=some (.tab xC)->H' P2=some (.tab xD)->Q (.bl true) H'
theorem kT:FnScope ["script", "start", "tape", "book", "deals", "costs", "turned", "some", "found", "even"] ["script"] (aF aCw):=⟨rfl,rfl,rfl,by decide +kernel,rfl,by decide +kernel,by decide +kernel⟩
set_option maxHeartbeats 4000000 in
theorem aEV {f fT fB' fE fC fCh fAr fEv fWs fFa P1 P2:Addr} {fd dT dB' dE dC dCh dAr dEv dWs dFa:FuncData} (G:Fn K mg "law" aCw ["script"] f fd) (B:Bl mg) (R:Pr K mg fW fH fK fB fNB fD fND fL dW dH dK dB dNB dD dND dL)
  (GTp:Fn K mg "_law_atape" aAn ["script", "k"] fT dT) (OTp:FnOk P w K mg base CX0 2 fT dT ["script", "k"] (aCD K))
  (GB:Fn K mg "_law_abook" qM ["tape", "hands", "works"] fB' dB') (OB:FnOk P w K mg base CX0 2 fB' dB' ["tape", "hands", "works"] (aAu K))
  (GE:Fn K mg "_law_adeal" qN ["tape", "book"] fE dE) (OE:FnOk P w K mg base CX0 2 fE dE ["tape", "book"] (aCG K))
  (GAC2:Fn K mg "_law_acosts" mW ["tape", "book"] fC dC) (OAC2:FnOk P w K mg base CX0 2 fC dC ["tape", "book"] (wZ K))
  (GCh:Fn K mg "cheapest" nW ["book", "costs"] fCh dCh) (OCh:FnOk P w K mg base CX0 8 fCh dCh ["book", "costs"] (aAI K P1))
  (GAr:Fn K mg "_law_aright" lB ["book", "costs", "found", "deals"] fAr dAr) (OAr:FnOk P w K mg base CX0 8 fAr dAr ["book", "costs", "found", "deals"] (xS K))
  (GEv:Fn K mg "evenest" kL ["book"] fEv dEv) (OEv:FnOk P w K mg base CX0 11 fEv dEv ["book"] (tX K P2))
  (GWs:Fn K mg "waits" qK ["book", "deal"] fWs dWs) (GFa:Fn K mg "falling" mT ["book", "deal"] fFa dFa):FnOk P w K mg base CX0 12 f fd ["script"] (aAL K P1 P2):=by
 have OWs:FnOk P w K mg base CX0 8 fWs dWs ["book", "deal"] (aAD K):=aCU GWs B R
 have OFa:FnOk P w K mg base CX0 8 fFa dFa ["book", "deal"] (tV K):=zJ GFa B R
 refine G.fn.ok kT (fun vs H Q E h=>?_) (fun cdv A outer s H vs Q E hr h=>?_)
 ·obtain ⟨a,ns,rfl,_⟩:=h
  rfl
 ·obtain ⟨a,ns,rfl,hns,hP1,hP2,k⟩:=h
  have r2:Room 2 _:=hr.mono (by decide)
  have r8:Room 8 _:=hr.mono (by decide)
  have r11:Room 11 _:=hr
  refine ⟨_,(aD (dZ PassesOwn.never rfl (aAQ rfl B.range (aA aJ (aA (aK (aAR rfl) rfl B.max aFH (aA aJ (aA (aK (aAS rfl) rfl B.min aD9 (aA aJ (aA (aK aS rfl B.len cU (aA (pv 0) aB)) aB))) aB))) aB))) (aH (i:=1) kT.nd rfl (Or.inl rfl))
   (aD (aY (i:=2) kT.nd rfl (Or.inr rfl) (aT GTp OTp r2 rfl (aA (pv 0) (aA (pv 1) aB))))
  (aD (aY (i:=3) kT.nd rfl (Or.inr rfl) (aT GB OB r2 rfl (aA (pv 2) (aA aJ (aA aJ aB)))))
  (aD (jL (i:=4) (own:=["turn"]) (fr:=[3,2]) (frn:=["book", "tape"]) (aV (aF aCw) ["script", "start", "tape", "book", "deals", "costs", "turned", "some", "found", "even"] rfl rfl (by decide +kernel)) rfl kT.nd rfl rfl rfl (cK rfl B.range (aA aJ aB))
    (fun _ _ _ _=>(aH (i:=0) (show (["turn", "book", "tape"]:List Str).Nodup by decide +kernel) rfl (Or.inl rfl))) (fun _ _ _ _=>cA)
    (fun _ _ _ _=>(aT GE OE r2 rfl (aA (pv 2) (aA (pv 1) aB)))))
  (aD (aY (i:=5) kT.nd rfl (Or.inl rfl) (aT GAC2 OAC2 r2 rfl (aA (pv 2) (aA (pv 3) aB))))
  (aD (bT (bB lI (pv 1) aJ (bE _))
   (aG (aY (i:=5) kT.nd rfl (Or.inl rfl) (cL (uV (K:=K) rfl) (gN (aA (bQ (oX rfl) rfl B.tuple bV (aA (bQ uY rfl B.range aDF (aA aJ (aA (cL iH (aK aS rfl B.len cU (aA (aU aZ (pv 3) aJ (fun _ _=>rfl)) aB)) aJ) aB))) aB)) aB)) (aU aZ (pv 3) aJ (fun _ _=>rfl)))))
   aW)
  (aD (aY (i:=6) kT.nd rfl (Or.inl rfl) (gN (aA (aU aZ (pv 3) aJ (fun _ _=>rfl)) (aA (yJ (aU aZ (pv 3) aJ (fun _ _=>rfl)) (sU nO aJ)) aB))))
  (aD (bT (cF (cJ (aT GAr OAr r8 rfl (aA (pv 6) (aA (pv 5) (aA (aT GCh OCh r8 rfl (aA (pv 6) (aA (pv 5) aB))) (aA (bR (own:=["deal"]) (fr:=[]) (frn:=[]) (aV (aF aCw) ["script", "start", "tape", "book", "deals", "costs", "turned", "some", "found", "even"] rfl rfl (by decide +kernel)) rfl (jJ (pv 4))
    (fun _ _ _ _=>(aH (i:=0) (show (["deal"]:List Str).Nodup by decide +kernel) rfl (Or.inl rfl))) (fun _ _ _ _=>cA)
    (fun _ _ _ _=>(aDZ (K:=K) rfl (pv 0) (sU nO aJ)))) aB)))))))
   (aG (aO cE))
   aW)
  (aD (dZ PassesOwn.never rfl (jJ (eM (aA (yJ (pv 5) (sU nO aJ)) (aA (pv 5) aB)))) (aH (i:=7) kT.nd rfl (Or.inl rfl))
   (aD (aY (i:=8) kT.nd rfl (Or.inl rfl) (aT GCh OCh r8 rfl (aA (pv 3) (aA (pv 7) aB))))
  (aG (bT (cF (cJ (aT GAr OAr r8 rfl (aA (pv 3) (aA (pv 7) (aA (pv 8) (aA (pv 4) aB)))))))
   (aG (aO cE))
   aW))))
  (aG (bT (bB lI (pv 1) aJ (bE _))
   (aD (aY (i:=9) kT.nd rfl (Or.inl rfl) (aU aZ (aT GEv OEv r11 rfl (aA (pv 3) aB)) aJ (fun _ _=>rfl)))
  (aG (bT (PW.pt (gA (bB gW (aU aZ (pv 8) aJ (fun _ _=>rfl)) (aT GWs OWs r8 rfl (aA (pv 3) (aA (pv 9) aB))) (bE _)) (eT (bB (aBW hr.u64) (bQ jK rfl B.list uZ (aA (aT GFa OFa r8 rfl (aA (pv 3) (aA (aU aZ (pv 8) aJ (fun _ _=>rfl)) aB))) aB)) (bQ jK rfl B.list uZ (aA (aT GFa OFa r8 rfl (aA (pv 3) (aA (pv 9) aB))) aB)) (bE _)))))
   (aG (aO cE))
   aW)))
   aW)))))))))))
  (aG (aO cE))),?_⟩
  have hM:∀ m:Int,0<=m->0<=(if (if m < 3 then m else 3) > 1 then (if m < 3 then m else 3) else 1)/\(if (if m < 3 then m else 3) > 1 then (if m < 3 then m else 3) else 1)<=3:=fun m hm=>by split <;> split <;> omega
  have hM':=hM ((ns.map V.int).length:Int) (by omega)
  refine ⟨_,rfl,a,_,rfl,.inl hns,_,_,rfl,_,_,rfl,0,_,rfl,⟨by decide,by decide,by omega,by omega⟩,gM (lo:=0) (fun i σ H1=>(∃ v1 v2 v3 v4 v5 v6 v7 v8 v9,σ = [some (.ref a),v1,v2,v3,v4,v5,v6,v7,v8,v9])/\SqL K H1 a (ns.map V.int)/\H1 P1=some (.tab xC)/\H1 P2=some (.tab xD)) ⟨⟨_,_,_,_,_,_,_,_,_,rfl⟩,hns,hP1,hP2⟩ ?_ ?_⟩
  ·rintro i σ H1 hi ⟨⟨v1,v2,v3,v4,v5,v6,v7,v8,v9,rfl⟩,hs1,p1,p2⟩
   refine ⟨_,rfl,_,rfl,a,ns,i,by rw [Xp]; rfl,hs1,fun t n0 ht=>?_⟩
   have n1t:P1≠t:=fun z=>by rw [z,ht] at p1; cases p1
   have n2t:P2≠t:=fun z=>by rw [z,ht] at p2; cases p2
   have b2:But t H1 (upd H1 t (.lst [.int n0])):=But.at
   have T2:fJ K (upd H1 t (.lst [.int n0])) t a ns:=⟨_,aC⟩
   generalize upd H1 t (.lst [.int n0])=H2 at b2 T2 ⊢
   refine ⟨_,rfl,t,a,ns,6,12,rfl,T2,by decide,by decide,by decide,by decide,fun n ws bp H3 hbk hwl b3 T3 hb3=>?_⟩
   have hbn:=oO n ws
   refine ⟨5,rfl,by decide,by decide,eC (lo:=0) (n:=5) (fun σ=>∃ v,σ = [v,some (.ref bp),some (.ref t)]) (fun j zs H4=>zs.length=j/\But t H3 H4/\fJ K H4 t a ns/\∀ z∈zs,∃ hs,cR ws (cM hs)=true/\Den K H4 (cM hs) z) (cV (by decide)) ⟨none,rfl⟩ ⟨rfl,But.refl t H3,T3,fun z h=>(Qo h).elim⟩ ?_ ?_ ?_⟩
   ·rintro j zs H4 ⟨h,_⟩
    exact Wx h
   ·rintro j zs σ H4 hj ⟨v,rfl⟩ ⟨hzl,b4,T4,hz⟩ hsz
    refine bK ?_
    refine ⟨_,rfl,_,rfl,t,a,ns,.ref bp,n,ws,rfl,T4,T3.den b4 hbn hb3,hbk,fun hs dp H5 hd b5 T5 hd5=>?_⟩
    refine ⟨hsz,⟨_,rfl⟩,by rw [Qk,hzl]; rfl,b4.trans b5,T5,fun z hm=>?_⟩
    rcases Jk.mp hm with hm | hm
    ·obtain ⟨hs',h1,h2⟩:=hz z hm
     exact ⟨hs',h1,T4.den b5 (dU hs') h2⟩
    ·rw [Qu.mp hm]
     exact ⟨hs,hd,hd5⟩
   ·rintro zs H4 ⟨hzl,b4,T4,hz⟩ dl hdl
    have sd:=aE.new (o:=.lst zs) hdl
    have ndt:dl≠t:=T4.ne hdl
    have dl5:upd H4 dl (.lst zs) dl=some (.lst zs):=aC
    have b5:=b4.trans (But.of sd)
    have T5:=T4.same sd
    have hb5:=T3.den b5 hbn hb3
    have hz5:∀ z∈zs,∃ hs,cR ws (cM hs)=true/\Den K (upd H4 dl (.lst zs)) (cM hs) z:=fun z h=>let ⟨hs,h1,h2⟩:=hz z h; ⟨hs,h1,sd.den _ _ h2⟩
    generalize upd H4 dl (.lst zs)=H5 at dl5 b5 T5 hb5 hz5 ⊢
    refine ⟨_,rfl,_,rfl,t,a,ns,.ref bp,n,ws,rfl,T5,hb5,hbk,fun cs0 cp0 H6 hc0 b6 T6 hc6=>?_⟩
    have hb6:=T5.den b6 hbn hb5
    have dl6:=b6 _ _ ndt dl5
    have hz6:∀ z∈zs,∃ hs,cR ws (cM hs)=true/\Den K H6 (cM hs) z:=fun z h=>let ⟨hs,h1,h2⟩:=hz5 z h; ⟨hs,h1,T5.den b6 (dU hs) h2⟩
    have b16:=b2.trans (b3.trans (b5.trans b6))
    have p16:=b16 _ _ n1t p1
    have p26:=b16 _ _ n2t p2
    have hs6:=oH ht b16 hs1
    clear hz5 hz b5 b6 b4 T5 hb5 dl5 T4 hdl sd
    obtain ⟨hn1,hn6,hw12,hws⟩:=bC hbk
    obtain ⟨nn,rfl⟩:∃ m:Nat,n=(m:Int):=⟨n.toNat,by omega⟩
    obtain ⟨ba,bb,ys,ebp,ha6,hb26,hys6⟩:=bS hb6
    obtain rfl:bp=ba:=by injection ebp
    have hlw:=aN hys6
    rw [Qb] at hlw
    dsimp only [sS]
    refine aD0 (fun σ H7=>∃ (cs:List (List Int)) (cp:Addr),σ = [some (.ref a),some (.int (0+(i:Int))),some (.ref t),some (.ref bp),some (.ref dl),some (.ref cp),v6,v7,v8,v9]/\aE H6 H7/\Den K H7 (gH cs) (.ref cp)/\cB (nn:Int) ws.length cs/\(i=2->iT (nn:Int) ws.length cs)) (fun N hN=>?_) ?_
    ·refine ⟨_,rfl,rfl,_,rfl,?_⟩
     refine eK (fun c=>?_) (fun c=>?_)
     ·refine ⟨_,rfl,bp,_,1,.ref bb,rfl,rfl,ha6,rfl,bb,ys,rfl,.inr hb26,_,_,rfl,rfl,_,_,rfl,fun rp hrp=>?_⟩
      have s7:=aE.new (o:=.rng 1 ((ys.length:Int)+1)) hrp
      refine ⟨rp,ws.length,rfl,by rw [aC,hlw,Int.add_comm],by omega,fun tp H8 s8 htp=>⟨sz1 _,fun tt htt=>?_⟩⟩
      have s9:=aE.new (o:=.tup [.ref tp]) htt
      have s69:=s7.trans (s8.trans s9)
      refine ⟨_,rfl,bp,_,0,.int nn,rfl,rfl,s69.seqT ha6,rfl,tt,nn,[.ref tp],rfl,rfl,SqT.of aC,by omega,(show 1<=1000 by decide),fun cp H10 s10 hcp=>?_⟩
      refine hN _ _ ⟨_,cp,rfl,s69.trans s10,bH.mpr ⟨cp,List.replicate nn (.ref tp),rfl,?_,?_⟩,(uA hw12).1,fun _=>(uA hw12).2⟩
      ·rw [Xh] at hcp
       exact hcp
      ·rw [Yq]
       exact jN (aP.mpr ⟨tp,rfl,(s9.trans s10).seqT htp⟩) nn
     ·exact hN _ _ ⟨cs0,cp0,rfl,aE.refl _,hc6,hc0,fun z=>by subst z; exact absurd c (by decide)⟩
    ·rintro σ H7 ⟨cs,cp,rfl,s7,hc7,hc,hone⟩
     have ha7:=s7.seqT ha6
     have hb27:=s7.seqT hb26
     have hys7:=s7.denAll _ _ hys6
     refine ⟨_,rfl,bp,_,0,.int nn,rfl,rfl,ha7,rfl,_,rfl,bp,_,1,.ref bb,rfl,rfl,ha7,rfl,_,rfl,rfl,bb,ys,rfl,hb27,fun rv hrv=>⟨sz2 _ _,fun tb htb=>?_⟩⟩
     have sr:=aE.new (o:=.tup ys.reverse) hrv
     have r8:upd H7 rv (.tup ys.reverse) rv=some (.tup ys.reverse):=aC
     generalize upd H7 rv (.tup ys.reverse)=H8 at sr r8 htb ⊢
     have st:=aE.new (o:=.tup [.int nn,.ref rv]) htb
     have t9:upd H8 tb (.tup [.int nn,.ref rv]) tb=some (.tup [.int nn,.ref rv]):=aC
     have r9:=st _ _ r8
     generalize upd H8 tb (.tup [.int nn,.ref rv])=H9 at st t9 r9 ⊢
     have s79:=sr.trans st
     have s69:=s7.trans s79
     have hbt9:Den K H9 (bY nn ws.reverse) (.ref tb):=nZ (SqT.of t9) (SqT.of r9) (by rw [Yb]; exact lZ (s79.denAll _ _ hys7))
     have hbkr:=aC8 hbk
     have hcr:cB (nn:Int) ws.reverse.length cs:=by rw [Jt]; exact hc
     refine ⟨_,rfl,_,rfl,_,rfl,_,rfl,.ref tb,cp,nn,ws.reverse,cs,rfl,hbt9,hbkr,s79.den _ _ hc7,hcr,s69 _ _ p16,fun p dp pp hs ps H10 s10 hp hdp hd hpp hpr=>?_⟩
     have s610:=s69.trans s10
     have dl10:=s610 _ _ dl6
     refine ⟨_,rfl,dl,rfl,⟨_,SqL.of dl10⟩,aA2 (K:=K) (a:=dl) (xs:=zs) (fun σ=>∃ v,σ = [v]) (fun j us H11=>aE H10 H11/\us.length=j/\∀ u∈us,∃ hs',cR ws.reverse (cM hs')=true/\Den K H11 (cM hs') u) (cV (by omega)) ⟨none,rfl⟩ ⟨aE.refl _,rfl,fun z h=>(Qo h).elim⟩ (fun j us H11 z=>Wx z.2.1) (fun j us H11 z=>SqL.of (z.1 _ _ dl10)) ?_ ?_⟩
     ·rintro j us σ u H11 hu ⟨v,rfl⟩ ⟨s11,hul,hus⟩ hsz
      obtain ⟨hs',h1,h2⟩:=hz6 u (Qe hu)
      obtain ⟨dq,rfl,hdq⟩:=aP.mp ((s610.trans s11).den _ _ h2)
      refine bK ?_
      refine ⟨_,rfl,_,rfl,rfl,dq,_,rfl,hdq,fun r hr0=>?_⟩
      have s12:=aE.new (o:=.tup (hs'.map V.int).reverse) hr0
      refine ⟨hsz,⟨_,rfl⟩,s11.trans s12,by rw [Qk,hul]; rfl,fun z hm=>?_⟩
      rcases Jk.mp hm with hm | hm
      ·obtain ⟨hs2,g1,g2⟩:=hus z hm
       exact ⟨hs2,g1,s12.den _ _ g2⟩
      ·rw [Qu.mp hm]
       exact ⟨hs'.reverse,aC7 h1,aP.mpr ⟨r,rfl,by rw [Yb]; exact SqT.of aC⟩⟩
     ·rintro us H11 ⟨s11,hul,hus⟩ rl hrl
      have s12:=aE.new (o:=.lst us) hrl
      have l12:upd H11 rl (.lst us) rl=some (.lst us):=aC
      generalize upd H11 rl (.lst us)=H12 at s12 l12 ⊢
      have s1012:=s11.trans s12
      have hbt12:=(s10.trans s1012).den _ _ hbt9
      refine ⟨.ref tb,cp,p,dp,pp,rl,nn,ws.reverse,cs,hs,ps,us,rfl,⟨hbt12,hbkr,(s79.trans (s10.trans s1012)).den _ _ hc7,hcr,s1012 _ _ hp,s1012 _ _ hdp,hd,s1012 _ _ hpp,hpr,l12,fun z hm=>?_⟩,by omega,fun H13 s13=>⟨_,rfl,?_⟩⟩
      ·obtain ⟨hs2,g1,g2⟩:=hus z hm
       exact ⟨hs2,hbt12,hbkr,s12.den _ _ g2,g1⟩
      refine eE ?_
      have s713:=s79.trans (s10.trans (s1012.trans s13))
      have s613:=s7.trans s713
      have hc13:=s713.den _ _ hc7
      obtain ⟨cp',rs,e,hq,hrs⟩:=bH.mp hc13
      obtain rfl:cp=cp':=by injection e
      refine ⟨_,rfl,_,rfl,rfl,cp,rs,rfl,hq,fun rc hrc=>?_⟩
      have s14:=aE.new (o:=.tup rs.reverse) hrc
      have dr:Den K (upd H13 rc (.tup rs.reverse)) (gH cs.reverse) (.ref rc):=bH.mpr ⟨rc,rs.reverse,rfl,SqT.of aC,by rw [Yb]; exact lZ (s14.denAll _ _ hrs)⟩
      generalize upd H13 rc (.tup rs.reverse)=H14 at s14 dr ⊢
      refine ⟨_,rfl,sz2 _ _,fun l hl=>?_⟩
      have s15:=aE.new (o:=.lst [.ref rc,.ref cp]) hl
      have l15:upd H14 l (.lst [.ref rc,.ref cp]) l=some (.lst [.ref rc,.ref cp]):=aC
      have dr15:=s15.den _ _ dr
      generalize upd H14 l (.lst [.ref rc,.ref cp])=H15 at s15 l15 dr15 ⊢
      have s615:=s613.trans (s14.trans s15)
      have hc15:=(s14.trans s15).den _ _ hc13
      refine ⟨l,rfl,⟨_,SqL.of l15⟩,mB (K:=K) (a:=l) (xs:=[.ref rc,.ref cp]) (fun j σ H16=>(∃ v7 v8,σ = [some (.ref a),some (.int (0+(i:Int))),some (.ref t),some (.ref bp),some (.ref dl),some (.ref cp),some (.ref tb),v7,v8,v9]/\(0 < j->pI H16 nn ws (i=2) v8))/\aE H15 H16)
       ⟨⟨_,_,rfl,fun z=>absurd z (by decide)⟩,aE.refl _⟩ (fun j σ H16 _ z=>SqL.of (z.2 _ _ l15)) ?_ ?_⟩
      ·rintro j sv σ H16 hsv ⟨⟨v7,v8,rfl,_⟩,s16⟩
       have s616:=s615.trans s16
       have hb16:=s616.den _ _ hb6
       obtain ⟨cq,cs2,rfl,hc2,hone2,hd2⟩:∃ cq cs2,sv=.ref cq/\cB (nn:Int) ws.length cs2/\(i=2->iT (nn:Int) ws.length cs2)/\Den K H16 (gH cs2) (.ref cq):=by
        match j,hsv with
        | 0,hsv =>
         have e:V.ref rc=sv:=by simpa using hsv
         exact ⟨rc,cs.reverse,e.symm,aBC hc,fun z=>aD1 hc.1 (hone z),s16.den _ _ dr15⟩
        | 1,hsv =>
         have e:V.ref cp=sv:=by simpa using hsv
         exact ⟨cp,cs,e.symm,hc,hone,s16.den _ _ hc15⟩
        | j+2,hsv=>simp at hsv
       refine ⟨_,rfl,_,rfl,.ref bp,cq,nn,ws,cs2,rfl,hb16,hbk,hd2,hc2,s616 _ _ p16,fun p dp pp hs ps H17 s17 hp hdp hd hpp hpr=>?_⟩
       have s617:=s616.trans s17
       have hb17:=s17.den _ _ hb16
       refine ⟨_,rfl,_,rfl,_,rfl,_,rfl,.ref bp,cq,p,dp,pp,dl,nn,ws,cs2,hs,ps,zs,rfl,⟨hb17,hbk,s17.den _ _ hd2,hc2,hp,hdp,hd,hpp,hpr,s617 _ _ dl6,fun z hm=>?_⟩,by omega,fun H18 s18=>⟨_,rfl,?_⟩⟩
       ·obtain ⟨hs2,g1,g2⟩:=hz6 z hm
        exact ⟨hs2,hb17,hbk,s617.den _ _ g2,g1⟩
       refine eE ?_
       exact ⟨⟨_,_,rfl,fun _=>⟨cs2,p,dp,pp,hs,ps,rfl,hone2,s18 _ _ hp,s18 _ _ hdp,hd,hpr⟩⟩,s16.trans (s17.trans s18)⟩
      ·rintro σ H16 ⟨⟨v7,v8,rfl,hF⟩,s16⟩
       obtain ⟨cs2,p,dp,pp,hs,ps,rfl,hone2,hp,hdp,hd,hpr⟩:=hF (show 0 < 2 by decide)
       have s616:=s615.trans s16
       have b116:=b16.trans (But.of s616)
       refine ⟨_,rfl,rfl,_,rfl,?_⟩
       refine eK (fun c=>?_) (fun c=>?_)
       ·have hi2:i=2:=by
         have:=of_decide_eq_true c
         injection this with this
         omega
        have O:=hone2 hi2
        have hb16:=s616.den _ _ hb6
        refine ⟨_,rfl,.ref bp,nn,ws,rfl,hb16,hbk,s616 _ _ p26,fun pe de le hs' lv H17 s17 hpe hde hd' hle hlv=>⟨pe,_,0,.ref de,rfl,rfl,SqT.of hpe,rfl,?_⟩⟩
        have hb17:=s17.den _ _ hb16
        have g1:dM K H17 (.ref bp) (.ref de) nn ws hs':=⟨hb17,hbk,aP.mpr ⟨de,rfl,SqT.of hde⟩,hd'⟩
        have g2:dM K H17 (.ref bp) (.ref dp) nn ws hs:=⟨hb17,hbk,aP.mpr ⟨dp,rfl,SqT.of (s17 _ _ hdp)⟩,hd⟩
        have hp17:=s17 _ _ hp
        refine ⟨_,rfl,p,_,0,_,rfl,rfl,SqT.of hp17,rfl,_,rfl,_,rfl,.ref bp,.ref de,nn,ws,hs',rfl,g1,fun H18 s18=>⟨rfl,_,rfl,?_⟩⟩
        refine oT (by rw [aBE hbk hd hd' hpr O hlv]; exact pH _) ?_
        refine ⟨_,rfl,_,rfl,p,_,1,.ref dp,rfl,rfl,SqT.of (s18 _ _ hp17),rfl,.ref bp,.ref dp,nn,ws,hs,rfl,g2.same s18,fun f1 H19 ms s19 hf0 hf m1 m2=>⟨f1,_,rfl,.inl (SqL.of hf),fun l1 hl1=>?_⟩⟩
        have s20:=aE.new (o:=.lst (ms.map V.int)) hl1
        have e20:upd H19 l1 (.lst (ms.map V.int)) l1=some (.lst (ms.map V.int)):=aC
        generalize upd H19 l1 (.lst (ms.map V.int))=H20 at s20 e20 ⊢
        have s1720:=s18.trans (s19.trans s20)
        refine ⟨_,rfl,_,rfl,.ref bp,.ref de,nn,ws,hs',rfl,g1.same s1720,fun f2 H21 ys2 s21 hf20 hf2 y1 y2=>⟨f2,_,rfl,.inl (SqL.of hf2),fun l2 hl2=>?_⟩⟩
        have s22:=aE.new (o:=.lst (ys2.map V.int)) hl2
        have e22:upd H21 l2 (.lst (ys2.map V.int)) l2=some (.lst (ys2.map V.int)):=aC
        generalize upd H21 l2 (.lst (ys2.map V.int))=H22 at s22 e22 ⊢
        refine ⟨.list (ms.map .int),.list (ys2.map .int),iF.mpr ⟨l1,rfl,SqL.of ((s21.trans s22) _ _ e20)⟩,iF.mpr ⟨l2,rfl,SqL.of e22⟩,fY _,fY _,fZ _,fZ _,_,rfl,?_⟩
        refine oT (by rw [nY,decide_eq_true (xT hbk hd hd' hpr O hlv m1 y1 m2 y2)]; rfl) ?_
        have s1622:=s17.trans (s1720.trans (s21.trans s22))
        have b122:=b116.trans (But.of s1622)
        exact ⟨⟨_,_,_,_,_,_,_,_,_,rfl⟩,oH ht b122 hs1,b122 _ _ n1t p1,b122 _ _ n2t p2⟩
       ·exact ⟨⟨_,_,_,_,_,_,_,_,_,rfl⟩,oH ht b116 hs1,b116 _ _ n1t p1,b116 _ _ n2t p2⟩
  ·rintro σ H1 ⟨_,_,p1,p2⟩
   exact k _ p1 p2
end
end Ab
namespace Ab
open PySem L2 PyProof.Rows
theorem bZ {K:PySem.W.Frag} {h:Heap} {mg:Str->Option Value} (X:K.In h) (G:h.Ns mainGlobals mg) {x:Str} {st:Stmt} {ps:List Str} {f:Addr} {oc:Value} {od an:Option Addr} {osl:Array (Option Value)} {kV doc pm cdv ct:Value}
  (hb:∀ (kV doc pm:Value) (an:Option Addr) (cdv ct:Value) (us:List Value),us.length=ps.length->bindArgs (PySem.W.fnOf x x (iM st) (gT st) (aF st) .none kV doc pm an cdv ct) ⟨us,[]⟩=pure (ps.zip us))
  (a:PySem.W.nsIn K mainGlobals x=some (some (.ref f))) (l:K.lookup f=some ⟨oc,od,.func (PySem.W.fnOf x x (iM st) (gT st) (aF st) .none kV doc pm an cdv ct),osl⟩) (c:PySem.W.codeIn K cdv x=true) (k:PySem.W.keepIn K (.ref f)=true) :
  ∃ f fd,Fn K mg x st ps f fd:=by
 have F:=aBU (st:=st) l c k
 exact ⟨f,_,F,PySem.W.mg_of X G a,k,F.binds hb⟩
theorem aC9 {K:PySem.W.Frag} {h:Heap} {mg:Str->Option Value} (X:K.In h) (G:h.Ns mainGlobals mg) {x:Str} {st:Stmt} {ps:List Str} {f:Addr} {oc:Value} {od an:Option Addr} {osl:Array (Option Value)} {kV doc pm cdv ct:Value}
  (hb:∀ (kV doc pm:Value) (an:Option Addr) (cdv ct:Value) (us:List Value),us.length=ps.length->bindArgs (PySem.W.fnOf x x (iM st) (gT st) (aF st) .none kV doc pm an cdv ct) ⟨us,[]⟩=pure (ps.zip us))
  (a:PySem.W.nsIn K mainGlobals x=some (some (.ref f))) (l:K.lookup f=some ⟨oc,od,.func (PySem.W.fnOf x x (iM st) (gT st) (aF st) .none kV doc pm an cdv ct),osl⟩) (c:PySem.W.codeIn K cdv x=true) (k:PySem.W.keepIn K (.ref f)=true) :
  ∃ f fd,Fn K mg x st ps f fd/\fd.code=cdv:=by
 have F:=aBU (st:=st) l c k
 exact ⟨f,_,⟨F,PySem.W.mg_of X G a,k,F.binds hb⟩,rfl⟩
theorem aFI {K:PySem.W.Frag} {h:Heap} {mg:Str->Option Value} (X:K.In h) (G:h.Ns mainGlobals mg) {t6 t12 t9:Tok}
  (z0:PySem.W.nsIn K mainGlobals "isinstance" = some none)
  (z1:PySem.W.nsIn K mainGlobals "int" = some none)
  (z2:PySem.W.nsIn K mainGlobals "bool" = some none)
  (z3:PySem.W.nsIn K mainGlobals "tuple" = some none)
  (z4:PySem.W.nsIn K mainGlobals "list" = some none)
  (z5:PySem.W.nsIn K mainGlobals "len" = some none)
  (z6:PySem.W.nsIn K mainGlobals "all" = some none)
  (z7:PySem.W.nsIn K mainGlobals "zip" = some none)
  (z8:PySem.W.nsIn K mainGlobals "range" = some none)
  (z9:PySem.W.nsIn K mainGlobals "sorted" = some none)
  (z10:PySem.W.nsIn K mainGlobals "set" = some none)
  (z11:PySem.W.nsIn K mainGlobals "sum" = some none)
  (z12:PySem.W.nsIn K mainGlobals "repr" = some none)
  (z13:PySem.W.nsIn K mainGlobals "enumerate" = some none)
  (z14:PySem.W.nsIn K mainGlobals "min" = some none)
  (z15:PySem.W.nsIn K mainGlobals "any" = some none)
  (z16:PySem.W.nsIn K mainGlobals "max" = some none)
  (zA:PySem.W.nsIn K mainGlobals "MOST_HANDS" = some (some (.int 6 t6))) (zB:PySem.W.nsIn K mainGlobals "MOST_WORKS" = some (some (.int 12 t12))) (zC:PySem.W.nsIn K mainGlobals "MOST_COST" = some (some (.int 999 t9))):Bl mg :=
 ⟨PySem.W.mg_none_of X G z0,PySem.W.mg_none_of X G z1,PySem.W.mg_none_of X G z2,PySem.W.mg_none_of X G z3,PySem.W.mg_none_of X G z4,PySem.W.mg_none_of X G z5,PySem.W.mg_none_of X G z6,PySem.W.mg_none_of X G z7,PySem.W.mg_none_of X G z8,PySem.W.mg_none_of X G z9,PySem.W.mg_none_of X G z10,PySem.W.mg_none_of X G z11,PySem.W.mg_none_of X G z12,PySem.W.mg_none_of X G z13,PySem.W.mg_none_of X G z14,PySem.W.mg_none_of X G z15,PySem.W.mg_none_of X G z16,⟨_,PySem.W.mg_of X G zA⟩,⟨_,PySem.W.mg_of X G zB⟩,⟨_,PySem.W.mg_of X G zC⟩⟩
theorem aD2 {l:PySem.W.OpenLaw} {w:World} {K:PySem.W.Frag} {mg:Str->Option Value} {fa c Pt c2 Pt2:Addr} (hfa:mg "law" = some (.ref fa)) (B:Bl mg)
  (hST:∃ f fd,Fn K mg "steps_to_least" iX ["book", "deal", "able", "measures"] f fd/\fd.code=.ref c) (hZ:∀ base:Heap,base.BuiltinsAt mg Pt->Lm K mg base c Pt)
  (hLO:∃ f fd,Fn K mg "levels_or_way" aCv ["book", "deal"] f fd/\fd.code=.ref c2) (hZ2:∀ base:Heap,base.BuiltinsAt mg Pt2->Lm K mg base c2 Pt2)
  (hW:∃ f fd,Fn K mg "is_whole" lT ["thing"] f fd)
  (hH:∃ f fd,Fn K mg "are_hands" qH ["thing"] f fd)
  (hKw:∃ f fd,Fn K mg "is_work" qI ["hands", "thing"] f fd)
  (hBP:∃ f fd,Fn K mg "is_book" qJ ["thing"] f fd)
  (hDP:∃ f fd,Fn K mg "is_deal" vA ["book", "thing"] f fd)
  (hNB:∃ f fd,Fn K mg "need_book" yP ["book"] f fd)
  (hND:∃ f fd,Fn K mg "need_deal" yQ ["book", "deal"] f fd)
  (hC:∃ f fd,Fn K mg "counted" eP ["hands", "deal"] f fd)
  (hL:∃ f fd,Fn K mg "loads" yR ["book", "deal"] f fd)
  (hFA:∃ f fd,Fn K mg "falling" mT ["book", "deal"] f fd)
  (hWA:∃ f fd,Fn K mg "waits" qK ["book", "deal"] f fd)
  (hHD:∃ f fd,Fn K mg "handing" gE ["book", "deal"] f fd)
  (hRC:∃ f fd,Fn K mg "reached" iW ["rows", "first"] f fd)
  (hWT:∃ f fd,Fn K mg "way_to" qL ["found", "last"] f fd)
  (hCR:∃ f fd,Fn K mg "is_cost_row" iY ["many", "thing"] f fd)
  (hAC:∃ f fd,Fn K mg "are_costs" iZ ["book", "thing"] f fd)
  (hNC:∃ f fd,Fn K mg "need_costs" nV ["book", "costs"] f fd)
  (hCF:∃ f fd,Fn K mg "cost_of" kZ ["book", "costs", "deal"] f fd)
  (hNX:∃ f fd,Fn K mg "next_costs" tK ["costs", "many"] f fd)
  (hCD:∃ f fd,Fn K mg "cheapest_deal" oY ["book", "costs"] f fd)
  (hCH:∃ f fd,Fn K mg "cheapest" nW ["book", "costs"] f fd)
  (hIP:∃ f fd,Fn K mg "is_price" mU ["row", "load", "price"] f fd)
  (hAP:∃ f fd,Fn K mg "are_prices" lU ["book", "costs", "deal", "prices"] f fd)
  (hSP:∃ f fd,Fn K mg "is_step" tL ["book", "deal", "step"] f fd)
  (hWY:∃ f fd,Fn K mg "is_way" yS ["book", "deal", "some"] f fd)
  (hNW:∃ f fd,Fn K mg "need_way" vB ["book", "deal", "some"] f fd)
  (hGO:∃ f fd,Fn K mg "gone" aAl ["book", "deal", "some"] f fd)
  (hBT:∃ f fd,Fn K mg "bettered" jA ["book", "deal"] f fd)
  (hEV:∃ f fd,Fn K mg "evenest" kL ["book"] f fd)
  (hCE:∃ f fd,Fn K mg "_law_acell" aAm ["script", "k"] f fd)
  (hTA:∃ f fd,Fn K mg "_law_atape" aAn ["script", "k"] f fd)
  (hDG:∃ f fd,Fn K mg "_law_adigit" lA ["tape", "many"] f fd)
  (hAW:∃ f fd,Fn K mg "_law_awhole" oZ ["found"] f fd)
  (hAB:∃ f fd,Fn K mg "_law_abook" qM ["tape", "hands", "works"] f fd)
  (hAH:∃ f fd,Fn K mg "_law_aheaps" mV ["book", "weights", "deal"] f fd)
  (hAD:∃ f fd,Fn K mg "_law_adeal" qN ["tape", "book"] f fd)
  (hAO:∃ f fd,Fn K mg "_law_acosts" mW ["tape", "book"] f fd)
  (hAK:∃ f fd,Fn K mg "_law_acost" qO ["book", "costs", "deal"] f fd)
  (hAA:∃ f fd,Fn K mg "_law_aare_prices" mX ["book", "costs", "deal", "prices"] f fd)
  (hAR:∃ f fd,Fn K mg "_law_aright" lB ["book", "costs", "found", "deals"] f fd)
  (hLW:∃ f fd,Fn K mg "law" aCw ["script"] f fd)
  : ∃ fd:FuncData,(∀ (s:Shared) (v:Value),BindsTo s fd ⟨[v],[]⟩ [("script",v)])/\∀ base:Heap,K.In base->base.Ns mainGlobals mg->base.BuiltinsAt mg Pt->base.BuiltinsAt mg Pt2->FnOk l.prog w K mg base CX0 12 fa fd ["script"] (aAL K Pt Pt2):=by
 obtain ⟨fST,dST,ST,hc⟩:=hST
 obtain ⟨fLO,dLO,LO,hc2⟩:=hLO
 obtain ⟨fW,dW,W⟩:=hW
 obtain ⟨fH,dH,H⟩:=hH
 obtain ⟨fKw,dKw,Kw⟩:=hKw
 obtain ⟨fBP,dBP,BP⟩:=hBP
 obtain ⟨fDP,dDP,DP⟩:=hDP
 obtain ⟨fNB,dNB,NB⟩:=hNB
 obtain ⟨fND,dND,ND⟩:=hND
 obtain ⟨fC,dC,C⟩:=hC
 obtain ⟨fL,dL,L⟩:=hL
 obtain ⟨fFA,dFA,FA⟩:=hFA
 obtain ⟨fWA,dWA,WA⟩:=hWA
 obtain ⟨fHD,dHD,HD⟩:=hHD
 obtain ⟨fRC,dRC,RC⟩:=hRC
 obtain ⟨fWT,dWT,WT⟩:=hWT
 obtain ⟨fCR,dCR,CR⟩:=hCR
 obtain ⟨fAC,dAC,AC⟩:=hAC
 obtain ⟨fNC,dNC,NC⟩:=hNC
 obtain ⟨fCF,dCF,CF⟩:=hCF
 obtain ⟨fNX,dNX,NX⟩:=hNX
 obtain ⟨fCD,dCD,CD⟩:=hCD
 obtain ⟨fCH,dCH,CH⟩:=hCH
 obtain ⟨fIP,dIP,IP⟩:=hIP
 obtain ⟨fAP,dAP,AP⟩:=hAP
 obtain ⟨fSP,dSP,SP⟩:=hSP
 obtain ⟨fWY,dWY,WY⟩:=hWY
 obtain ⟨fNW,dNW,NW⟩:=hNW
 obtain ⟨fGO,dGO,GO⟩:=hGO
 obtain ⟨fBT,dBT,BT⟩:=hBT
 obtain ⟨fEV,dEV,EV⟩:=hEV
 obtain ⟨fCE,dCE,CE⟩:=hCE
 obtain ⟨fTA,dTA,TA⟩:=hTA
 obtain ⟨fDG,dDG,DG⟩:=hDG
 obtain ⟨fAW,dAW,AW⟩:=hAW
 obtain ⟨fAB,dAB,AB⟩:=hAB
 obtain ⟨fAH,dAH,AH⟩:=hAH
 obtain ⟨fAD,dAD,AD⟩:=hAD
 obtain ⟨fAO,dAO,AO⟩:=hAO
 obtain ⟨fAK,dAK,AK⟩:=hAK
 obtain ⟨fAA,dAA,AA⟩:=hAA
 obtain ⟨fAR,dAR,AR⟩:=hAR
 obtain ⟨fLW,dLW,LW⟩:=hLW
 have e:=hfa.symm.trans LW.mgx
 cases e
 have R:Pr K mg fW fH fKw fBP fNB fDP fND fL dW dH dKw dBP dNB dDP dND dL:=⟨W,H,Kw,BP,NB,DP,ND,⟨fC,dC,C⟩,L⟩
 refine ⟨dLW,fun s v=>?_,fun base _ _ hBu hBu2=>?_⟩
 ·obtain ⟨oc,od,kV,doc,pm,an,cdv,ct,osl,rfl,lk,hcd⟩:=LW.fn.ex
  exact .of_eq rfl
 ·have Z:=hZ base hBu
  have Z2:=hZ2 base hBu2
  have OD:FnOk l.prog w K mg base CX0 1 fDG dDG ["tape", "many"] (nB K):=aCE DG B
  have ONC:FnOk l.prog w K mg base CX0 6 fNC dNC ["book", "costs"] (nE K):=aCH NC AC (wV AC B R CR)
  have OL:FnOk l.prog w K mg base CX0 8 fLO dLO ["book", "deal"] (aAz K Pt2):=aEP LO hc2 Z2 B R HD RC WT
  exact aEV LW B R TA (aDM TA B CE) AB (aCF AB B DG OD) AD (aDN AD B DG OD) AO (aBs AO B DG OD) CH (aC3 CH B R NC ONC C NX CD (aBz CD B C NX ST (aCP ST hc Z B HD RC WT)) HD RC CF) AR (aBB AR B AW AK (aC6 AK B AH) AA (aBr AA B AH) CF (tQ CF B R NC ONC C) AP (aCJ AP B R NC ONC C IP)) EV (zO EV B R BT (xH BT B LO OL GO (aDS GO B NW (aCQ NW B R WY SP))) LO OL) WA FA
theorem walk {l:PySem.W.OpenLaw} {q:Program} {loose:List Str} {XP:(Str->Option Value)->Heap->Prop} {YP:World->Heap->Prop} {d:DefRec} {K:Params->PySem.W.Frag} {c Pt c2 Pt2:Addr} (hn:l.most=some 63) (hdf:d.params.defaults = []) (hq:importsNone q=true)
  (hY:∀ (w:World) (h:Heap),YP w h->(K w.params).In h) (hT:∀ (w:World) (h:Heap),YP w h->h.get? Pt=some (PySem.W.tabObj #[])) (hT2:∀ (w:World) (h:Heap),YP w h->h.get? Pt2=some (PySem.W.tabObj #[])) (hne:Pt≠Pt2)
  (F:(∀ w:World,PySem.W.codeHdIn (K w.params) c Pt=true)->(∀ w:World,PySem.W.codeHdIn (K w.params) c2 Pt2=true)->∀ (w:World) (mg:Str->Option Value) (fa:Addr) (h:Heap),(K w.params).In h->h.Ns mainGlobals mg->mg d.name=some (.ref fa) ->
   ∃ fd:FuncData,(∀ (s:Shared) (u:Value),BindsTo s fd ⟨[u],[]⟩ [("script",u)])/\∀ base:Heap,(K w.params).In base->base.Ns mainGlobals mg->base.BuiltinsAt mg Pt->base.BuiltinsAt mg Pt2->FnOk l.prog w (K w.params) mg base CX0 12 fa fd ["script"] (aAL (K w.params) Pt Pt2))
  (hKP:∀ w:World,(K w.params).lookup Pt=none) (hKP2:∀ w:World,(K w.params).lookup Pt2=none) (hC:∀ w:World,PySem.W.codeHdIn (K w.params) c Pt=true) (hC2:∀ w:World,PySem.W.codeHdIn (K w.params) c2 Pt2=true) :
  PySem.W.WalkO q loose XP YP l.row.toRowW d [] (fun f vs=>PySem.call f vs) :=
 L2.aCk (n:=63) (k:=12) (x := "script") (CX:=fun _=>CX0) (sp:=fun w=>aAL (K w.params) Pt Pt2) (ts:=[(Pt,xC),(Pt2,xD)]) hn (by decide) hdf ⟨rfl,by decide,by decide,rfl⟩ hq hY
  (fun w h Y p hp=>by
   rcases Qm.mp hp with e | e
   ·rw [e]; exact ⟨hT w h Y,hKP w,c,PySem.W.codeHd_of_K (hY w h Y) (hC w)⟩
   ·rw [Qu.mp e]; exact ⟨hT2 w h Y,hKP2 w,c2,PySem.W.codeHd_of_K (hY w h Y) (hC2 w)⟩) (by simp [hne]) (fun w mg fa h a b d=>let ⟨fd,h1,h2⟩:=F hC hC2 w mg fa h a b d; ⟨fd,h1,fun base k1 k2 k3=>h2 base k1 k2 (k3 _ (Qq ..)) (k3 _ (Qr _ (Qq ..)))⟩)
  (fun _ _ a ns _ hO hS=>⟨a,ns,rfl,hS,hO.2 _ (Qq ..),hO.2 _ (Qr _ (Qq ..)),fun H' h h2=>⟨rfl,fun p hp=>by
   rcases Qm.mp hp with e | e
   ·rw [e]; exact h
   ·rw [Qu.mp e]; exact h2⟩⟩) fun _ _ _ _ _ z=>z
end Ab
open PySem PySem.W PyProof.Rows
set_option maxRecDepth 100000 in
set_option maxHeartbeats 0 in
theorem PySem.Challenge.cw_ablehands_k32_cheapest_deals_holds : PySem.Challenge.rw_ablehands_k32_cheapest_deals.Holds := by
 w_on; o_law; k_head; (case hw=>w_witness2)
 k_fill
 refine' Ab.walk (l:=PySem.Challenge.rw_ablehands_k32_cheapest_deals) rfl rfl (by decide +kernel) (fun w h Y=>PySem.W.km_in_of Y) (fun w h Y=>PySem.W.km_tabs_of Y _ (Qr _ (Qq ..))) (fun w h Y=>PySem.W.km_tabs_of Y _ (Qq ..)) (by decide) ?F ?KP ?KP2 ?HC ?HC2
 case F =>
  intro hC hC2 w mg fa h KX G hmg
  refine' Ab.aD2 hmg ?B ?hST ?Z ?hLO ?Z2 ?hW ?hH ?hKw ?hBP ?hDP ?hNB ?hND ?hC ?hL ?hFA ?hWA ?hHD ?hRC ?hWT ?hCR ?hAC ?hNC ?hCF ?hNX ?hCD ?hCH ?hIP ?hAP ?hSP ?hWY ?hNW ?hGO ?hBT ?hEV ?hCE ?hTA ?hDG ?hAW ?hAB ?hAH ?hAD ?hAO ?hAK ?hAA ?hAR ?hLW
  case Z =>
   intro base hb
   exact ⟨hC w,by decide,hb⟩
  case Z2 =>
   intro base hb
   exact ⟨hC2 w,by decide,hb⟩
  case hLO =>
   refine' Ab.aC9 KX G (fun _ _ _ _ _ _ us hl=>match us,hl with | [_,_],_=>rfl) ?a ?l ?c ?k
   (case a=>k_is); (case l=>k_is); (case c=>k_is); (case k=>k_is)
  case hST =>
   refine' Ab.aC9 KX G (fun _ _ _ _ _ _ us hl=>match us,hl with | [_,_,_,_],_=>rfl) ?a ?l ?c ?k
   (case a=>k_is); (case l=>k_is); (case c=>k_is); (case k=>k_is)
  case B =>
   refine' Ab.aFI KX G ?z0 ?z1 ?z2 ?z3 ?z4 ?z5 ?z6 ?z7 ?z8 ?z9 ?z10 ?z11 ?z12 ?z13 ?z14 ?z15 ?z16 ?zA ?zB ?zC
   (case z0=>k_is)
   (case z1=>k_is)
   (case z2=>k_is)
   (case z3=>k_is)
   (case z4=>k_is)
   (case z5=>k_is)
   (case z6=>k_is)
   (case z7=>k_is)
   (case z8=>k_is)
   (case z9=>k_is)
   (case z10=>k_is)
   (case z11=>k_is)
   (case z12=>k_is)
   (case z13=>k_is)
   (case z14=>k_is)
   (case z15=>k_is)
   (case z16=>k_is)
   (case zA=>k_is)
   (case zB=>k_is)
   (case zC=>k_is)
  case hW =>
   refine' Ab.bZ KX G (fun _ _ _ _ _ _ us hl=>match us,hl with | [_],_=>rfl) ?a ?l ?c ?k
   (case a=>k_is); (case l=>k_is); (case c=>k_is); (case k=>k_is)
  case hH =>
   refine' Ab.bZ KX G (fun _ _ _ _ _ _ us hl=>match us,hl with | [_],_=>rfl) ?a ?l ?c ?k
   (case a=>k_is); (case l=>k_is); (case c=>k_is); (case k=>k_is)
  case hKw =>
   refine' Ab.bZ KX G (fun _ _ _ _ _ _ us hl=>match us,hl with | [_,_],_=>rfl) ?a ?l ?c ?k
   (case a=>k_is); (case l=>k_is); (case c=>k_is); (case k=>k_is)
  case hBP =>
   refine' Ab.bZ KX G (fun _ _ _ _ _ _ us hl=>match us,hl with | [_],_=>rfl) ?a ?l ?c ?k
   (case a=>k_is); (case l=>k_is); (case c=>k_is); (case k=>k_is)
  case hDP =>
   refine' Ab.bZ KX G (fun _ _ _ _ _ _ us hl=>match us,hl with | [_,_],_=>rfl) ?a ?l ?c ?k
   (case a=>k_is); (case l=>k_is); (case c=>k_is); (case k=>k_is)
  case hNB =>
   refine' Ab.bZ KX G (fun _ _ _ _ _ _ us hl=>match us,hl with | [_],_=>rfl) ?a ?l ?c ?k
   (case a=>k_is); (case l=>k_is); (case c=>k_is); (case k=>k_is)
  case hND =>
   refine' Ab.bZ KX G (fun _ _ _ _ _ _ us hl=>match us,hl with | [_,_],_=>rfl) ?a ?l ?c ?k
   (case a=>k_is); (case l=>k_is); (case c=>k_is); (case k=>k_is)
  case hC =>
   refine' Ab.bZ KX G (fun _ _ _ _ _ _ us hl=>match us,hl with | [_,_],_=>rfl) ?a ?l ?c ?k
   (case a=>k_is); (case l=>k_is); (case c=>k_is); (case k=>k_is)
  case hL =>
   refine' Ab.bZ KX G (fun _ _ _ _ _ _ us hl=>match us,hl with | [_,_],_=>rfl) ?a ?l ?c ?k
   (case a=>k_is); (case l=>k_is); (case c=>k_is); (case k=>k_is)
  case hFA =>
   refine' Ab.bZ KX G (fun _ _ _ _ _ _ us hl=>match us,hl with | [_,_],_=>rfl) ?a ?l ?c ?k
   (case a=>k_is); (case l=>k_is); (case c=>k_is); (case k=>k_is)
  case hWA =>
   refine' Ab.bZ KX G (fun _ _ _ _ _ _ us hl=>match us,hl with | [_,_],_=>rfl) ?a ?l ?c ?k
   (case a=>k_is); (case l=>k_is); (case c=>k_is); (case k=>k_is)
  case hHD =>
   refine' Ab.bZ KX G (fun _ _ _ _ _ _ us hl=>match us,hl with | [_,_],_=>rfl) ?a ?l ?c ?k
   (case a=>k_is); (case l=>k_is); (case c=>k_is); (case k=>k_is)
  case hRC =>
   refine' Ab.bZ KX G (fun _ _ _ _ _ _ us hl=>match us,hl with | [_,_],_=>rfl) ?a ?l ?c ?k
   (case a=>k_is); (case l=>k_is); (case c=>k_is); (case k=>k_is)
  case hWT =>
   refine' Ab.bZ KX G (fun _ _ _ _ _ _ us hl=>match us,hl with | [_,_],_=>rfl) ?a ?l ?c ?k
   (case a=>k_is); (case l=>k_is); (case c=>k_is); (case k=>k_is)
  case hCR =>
   refine' Ab.bZ KX G (fun _ _ _ _ _ _ us hl=>match us,hl with | [_,_],_=>rfl) ?a ?l ?c ?k
   (case a=>k_is); (case l=>k_is); (case c=>k_is); (case k=>k_is)
  case hAC =>
   refine' Ab.bZ KX G (fun _ _ _ _ _ _ us hl=>match us,hl with | [_,_],_=>rfl) ?a ?l ?c ?k
   (case a=>k_is); (case l=>k_is); (case c=>k_is); (case k=>k_is)
  case hNC =>
   refine' Ab.bZ KX G (fun _ _ _ _ _ _ us hl=>match us,hl with | [_,_],_=>rfl) ?a ?l ?c ?k
   (case a=>k_is); (case l=>k_is); (case c=>k_is); (case k=>k_is)
  case hCF =>
   refine' Ab.bZ KX G (fun _ _ _ _ _ _ us hl=>match us,hl with | [_,_,_],_=>rfl) ?a ?l ?c ?k
   (case a=>k_is); (case l=>k_is); (case c=>k_is); (case k=>k_is)
  case hNX =>
   refine' Ab.bZ KX G (fun _ _ _ _ _ _ us hl=>match us,hl with | [_,_],_=>rfl) ?a ?l ?c ?k
   (case a=>k_is); (case l=>k_is); (case c=>k_is); (case k=>k_is)
  case hCD =>
   refine' Ab.bZ KX G (fun _ _ _ _ _ _ us hl=>match us,hl with | [_,_],_=>rfl) ?a ?l ?c ?k
   (case a=>k_is); (case l=>k_is); (case c=>k_is); (case k=>k_is)
  case hCH =>
   refine' Ab.bZ KX G (fun _ _ _ _ _ _ us hl=>match us,hl with | [_,_],_=>rfl) ?a ?l ?c ?k
   (case a=>k_is); (case l=>k_is); (case c=>k_is); (case k=>k_is)
  case hIP =>
   refine' Ab.bZ KX G (fun _ _ _ _ _ _ us hl=>match us,hl with | [_,_,_],_=>rfl) ?a ?l ?c ?k
   (case a=>k_is); (case l=>k_is); (case c=>k_is); (case k=>k_is)
  case hAP =>
   refine' Ab.bZ KX G (fun _ _ _ _ _ _ us hl=>match us,hl with | [_,_,_,_],_=>rfl) ?a ?l ?c ?k
   (case a=>k_is); (case l=>k_is); (case c=>k_is); (case k=>k_is)
  case hSP =>
   refine' Ab.bZ KX G (fun _ _ _ _ _ _ us hl=>match us,hl with | [_,_,_],_=>rfl) ?a ?l ?c ?k
   (case a=>k_is); (case l=>k_is); (case c=>k_is); (case k=>k_is)
  case hWY =>
   refine' Ab.bZ KX G (fun _ _ _ _ _ _ us hl=>match us,hl with | [_,_,_],_=>rfl) ?a ?l ?c ?k
   (case a=>k_is); (case l=>k_is); (case c=>k_is); (case k=>k_is)
  case hNW =>
   refine' Ab.bZ KX G (fun _ _ _ _ _ _ us hl=>match us,hl with | [_,_,_],_=>rfl) ?a ?l ?c ?k
   (case a=>k_is); (case l=>k_is); (case c=>k_is); (case k=>k_is)
  case hGO =>
   refine' Ab.bZ KX G (fun _ _ _ _ _ _ us hl=>match us,hl with | [_,_,_],_=>rfl) ?a ?l ?c ?k
   (case a=>k_is); (case l=>k_is); (case c=>k_is); (case k=>k_is)
  case hBT =>
   refine' Ab.bZ KX G (fun _ _ _ _ _ _ us hl=>match us,hl with | [_,_],_=>rfl) ?a ?l ?c ?k
   (case a=>k_is); (case l=>k_is); (case c=>k_is); (case k=>k_is)
  case hEV =>
   refine' Ab.bZ KX G (fun _ _ _ _ _ _ us hl=>match us,hl with | [_],_=>rfl) ?a ?l ?c ?k
   (case a=>k_is); (case l=>k_is); (case c=>k_is); (case k=>k_is)
  case hCE =>
   refine' Ab.bZ KX G (fun _ _ _ _ _ _ us hl=>match us,hl with | [_,_],_=>rfl) ?a ?l ?c ?k
   (case a=>k_is); (case l=>k_is); (case c=>k_is); (case k=>k_is)
  case hTA =>
   refine' Ab.bZ KX G (fun _ _ _ _ _ _ us hl=>match us,hl with | [_,_],_=>rfl) ?a ?l ?c ?k
   (case a=>k_is); (case l=>k_is); (case c=>k_is); (case k=>k_is)
  case hDG =>
   refine' Ab.bZ KX G (fun _ _ _ _ _ _ us hl=>match us,hl with | [_,_],_=>rfl) ?a ?l ?c ?k
   (case a=>k_is); (case l=>k_is); (case c=>k_is); (case k=>k_is)
  case hAW =>
   refine' Ab.bZ KX G (fun _ _ _ _ _ _ us hl=>match us,hl with | [_],_=>rfl) ?a ?l ?c ?k
   (case a=>k_is); (case l=>k_is); (case c=>k_is); (case k=>k_is)
  case hAB =>
   refine' Ab.bZ KX G (fun _ _ _ _ _ _ us hl=>match us,hl with | [_,_,_],_=>rfl) ?a ?l ?c ?k
   (case a=>k_is); (case l=>k_is); (case c=>k_is); (case k=>k_is)
  case hAH =>
   refine' Ab.bZ KX G (fun _ _ _ _ _ _ us hl=>match us,hl with | [_,_,_],_=>rfl) ?a ?l ?c ?k
   (case a=>k_is); (case l=>k_is); (case c=>k_is); (case k=>k_is)
  case hAD =>
   refine' Ab.bZ KX G (fun _ _ _ _ _ _ us hl=>match us,hl with | [_,_],_=>rfl) ?a ?l ?c ?k
   (case a=>k_is); (case l=>k_is); (case c=>k_is); (case k=>k_is)
  case hAO =>
   refine' Ab.bZ KX G (fun _ _ _ _ _ _ us hl=>match us,hl with | [_,_],_=>rfl) ?a ?l ?c ?k
   (case a=>k_is); (case l=>k_is); (case c=>k_is); (case k=>k_is)
  case hAK =>
   refine' Ab.bZ KX G (fun _ _ _ _ _ _ us hl=>match us,hl with | [_,_,_],_=>rfl) ?a ?l ?c ?k
   (case a=>k_is); (case l=>k_is); (case c=>k_is); (case k=>k_is)
  case hAA =>
   refine' Ab.bZ KX G (fun _ _ _ _ _ _ us hl=>match us,hl with | [_,_,_,_],_=>rfl) ?a ?l ?c ?k
   (case a=>k_is); (case l=>k_is); (case c=>k_is); (case k=>k_is)
  case hAR =>
   refine' Ab.bZ KX G (fun _ _ _ _ _ _ us hl=>match us,hl with | [_,_,_,_],_=>rfl) ?a ?l ?c ?k
   (case a=>k_is); (case l=>k_is); (case c=>k_is); (case k=>k_is)
  case hLW =>
   refine' Ab.bZ KX G (fun _ _ _ _ _ _ us hl=>match us,hl with | [_],_=>rfl) ?a ?l ?c ?k
   (case a=>k_is); (case l=>k_is); (case c=>k_is); (case k=>k_is)
 case KP=>intro w; first | k_is | kernel_rfl
 case KP2=>intro w; first | k_is | kernel_rfl
 case HC=>intro w; kernel_rfl
 case HC2=>intro w; kernel_rfl
