import PyProof.Rows.All
import Wide.All
import OpenK.AllK
import Wide.FinOn
import PyProof.EqAt
import PyProof.EqKinds
import PyProof.TupleCall
import KE.KSortKey
import KE.KDictOf
import PyProof.AttrMissSeq
import PyProof.ListNew
import PyProof.Rows.TupDisplay
import PyProof.DictCompW
import PyProof.WalksMore
import PyProof.MinMaxWalk
import PyProof.DictDisplay
import PyProof.DictWalks
import Lean
import PySem.Challenge.RW_ablehands_k28_rounded_deals
open List renaming length_map -> Qa,getElem?_eq_getElem -> Qb,getElem?_eq_some_iff -> Qd,getElem?_map -> Qe,mem_cons_self -> Qg,mem_of_getElem? -> Qh,mem_append_right -> Qj,mem_cons_of_mem -> Ql,getD_eq_getElem?_getD -> Qn,mem_singleton -> Qo,mem_cons -> Qp,length_append -> Qr,size_toArray -> Qs,map_append -> Qt,filter_cons -> Qx,mem_filter -> Qy,not_mem_nil -> Ja,all_eq_true -> Jb,getElem?_append_left -> Jc,mem_map -> Jd,length_filter_le -> Je,mem_append_left -> Jf,map_cons -> Jg,getElem?_append_right -> Jh,length_take -> Jk,length_cons -> Jl,mem_append -> Jm,length_range -> Jp,take_length -> Js,mem_range -> Jt,mem_iff_getElem? -> Jx,any_eq_true -> Jz,nodup_cons -> Xa,length_pos_iff -> Xb,lookup_cons -> Xc,length_singleton -> Xd,replicate_succ -> Xe,take_of_length_le -> Xg,append_nil -> Xh,length_replicate -> Xi,getElem?_range -> Xj,getElem?_replicate -> Xp,getElem?_set -> Xr,filter_append -> Xu,flatten_cons -> Xx,map_map -> Xy,length_set -> Za,getElem?_zip_eq_some -> Zd,mem_of_mem_take -> Ze,nil_append -> Zg,filterMap_cons -> Zj,length_reverse -> Zk,pairwise_cons -> Zn,find?_cons -> Zq,getElem?_eq_none -> Zr,nodup_append -> Zs,getElem_mem -> Zx,all_cons -> Yb,any_cons -> Yc,forIn_cons -> Yd,getElem?_inj -> Yf,take_succ -> Yh,forIn_nil -> Yj,getElem?_reverse -> Yk,length_drop -> Ym,of_mem_zip -> Yo,length -> Yp,map_congr_left -> Yr,nodup_iff_pairwise_ne -> Yu,mem_filterMap -> Yv,take_zero -> Yx,drop_eq_getElem_cons -> Yy,nodup_nil -> Yz,any_eq_false -> Wb,take_sublist -> Wd,reverse_cons -> Wf,append_assoc -> Wg,pairwise_map -> Wi,take_add_one -> Wk,eq_of_mem_replicate -> Wl,length_eq_zero_iff -> Wm,getElem?_cons_zero -> Wn,getElem?_cons_succ -> Wo,cons_append -> Wp,nodup_range -> Wq,getElem?_set_self -> Wr,drop_of_length_le -> Ws,any_map -> Ww,getElem?_set_ne -> Wy,getElem?_of_mem -> Wz,flatten_append -> Qac,filter_eq_self -> Qad,filterMap_map -> Qae,map_nil -> Qah,all_map -> Qak,map_set -> Qal
open PySem.Heap renaming get?_push_of_some -> Qc,lt_size -> Qm,get?_push_size -> Qq,size_push -> Xf,get?_update_other -> Xl,get?_update_self -> Zb
open Nat renaming lt_of_lt_of_le -> Qi,le_refl -> Qk,lt_irrefl -> Qu,le_trans -> Qv,zero_le -> Jj,ne_of_lt -> Jq,lt_of_le_of_lt -> Jy,min_le_left -> Xw,pow_le_pow_right -> Zf,le_succ_of_le -> Zh,le_of_lt -> Zo,ne_of_gt -> Wu,mul_le_mul -> Qab,succ_mul -> Qai,log2_lt -> Qan
open Bool renaming false_ne_true -> Qw,and_eq_true -> Jr,eq_iff_iff -> Xm,false_eq_true -> Xq,true_and -> Zc,false_and -> Yg,false_or -> Yn,true_or -> Wv
open Option renaming map_eq_some_iff -> Qz,map_some -> Xn,isSome_iff_exists -> Wc,isSome_map -> Wh,isSome_some -> Qaf,getD_none -> Qam
open Int renaming mul_assoc -> Ji,le_of_lt -> Jn,mul_le_mul_of_nonneg_right -> Jo,mul_right_comm -> Ju,mul_comm -> Jv,le_refl -> Jw,mul_le_mul_of_nonneg_left -> Xk,zero_add -> Xo,add_mul -> Xs,mul_lt_mul_of_pos_right -> Xt,lt_of_le_of_lt -> Xv,mul_one -> Xz,ediv_nonneg -> Zi,mul_ediv_mul_of_pos -> Zl,emod_lt_of_pos -> Zm,add_zero -> Zp,fdiv_eq_ediv_of_nonneg -> Zt,lt_of_mul_lt_mul_right -> Zu,eq_of_mul_eq_mul_right -> Zv,mul_nonneg -> Zw,mul_add -> Zy,mul_pos -> Zz,le_trans -> Ya,emod_nonneg -> Ye,mul_le_mul -> Yi,mul_zero -> Yl,natCast_add -> Yq,natCast_mul -> Ys,le_of_mul_le_mul_right -> Yt,zero_mul -> Yw,le_of_mul_le_mul_left -> Wa,toNat_natCast -> We,pos_of_mul_pos_right -> Wj,ediv_mul_le -> Wx,mul_ediv_cancel' -> Qaa,add_assoc -> Qag,ediv_one -> Qaj,sub_mul -> Qao
def PySem.W.Fast.tw2414789319108952471:Nat:=0
def PySem.W.Fast.tw13042077665617241545:Nat:=0
def PySem.W.Fast.tw14491264144915575596:Nat:=0
def PySem.W.Fast.tw5744374908960850194:Nat:=0
def PySem.W.Fast.tw1651857571573996542:Nat:=0
def PySem.W.Fast.tw18050357461750325653:Nat:=0
def PySem.W.Fast.tw14529668506976899979:Nat:=0
def PySem.W.Fast.tw808309175914982441:Nat:=0
def PySem.W.Fast.tw4830730971166893352:Nat:=0
def PySem.W.Fast.tw14696136313011403624:Nat:=0
def PySem.W.Fast.tw6678571547805339798:Nat:=0
def PySem.W.Fast.tw6004220817248960389:Nat:=0
def PySem.W.Fast.tw3944223935832773624:Nat:=0
def PySem.W.Fast.tw12536019855714403828:Nat:=0
def PySem.W.Fast.tw7774338245575297058:Nat:=0
def PySem.W.Fast.tw14621344690130059014:Nat:=0
def PySem.W.Fast.tw18338251767495445836:Nat:=0
def PySem.W.Fast.tw15935658343646919170:Nat:=0
def PySem.W.Fast.tw9726532704378375902:Nat:=0
def PySem.W.Fast.tw12997987733348721927:Nat:=0
def PySem.W.Fast.tw13350878599007687620:Nat:=0
def PySem.W.Fast.tw10102310862612581027:Nat:=0
def PySem.W.Fast.tw11242217406751170221:Nat:=0
def PySem.W.Fast.tw18356883617901713864:Nat:=0
def PySem.W.Fast.tw3104319606689457465:Nat:=0
def PySem.W.Fast.tw5807234201628519706:Nat:=0
def PySem.W.Fast.tw17818471851164684827:Nat:=0
def PySem.W.Fast.tw16580969626323826259:Nat:=0
def PySem.W.Fast.tw14315907149852993239:Nat:=0
def PySem.W.Fast.tw6926312250352681560:Nat:=0
def PySem.W.Fast.tw15294318043637748838:Nat:=0
def PySem.W.Fast.tw10982038427154134489:Nat:=0
def PySem.W.Fast.tw2816272681435741507:Nat:=0
def PySem.W.Fast.tw12837713654389440283:Nat:=0
def PySem.W.Fast.tw16165305225796358074:Nat:=0
def PySem.W.Fast.tw16988109087855450017:Nat:=0
def PySem.W.Fast.tw13294985920706100665:Nat:=0
def PySem.W.Fast.tw2745100559160629916:Nat:=0
def PySem.W.Fast.tw12440903653202750230:Nat:=0
def PySem.W.Fast.tw5870791772120020867:Nat:=0
def PySem.W.Fast.tw9394243898579064971:Nat:=0
def PySem.W.Fast.tw5787780065779444650:Nat:=0
def PySem.W.Fast.tw17497348209032031916:Nat:=0
def PySem.W.Fast.tw6987369363270483706:Nat:=0
def PySem.W.Fast.tw3636877325440078849:Nat:=0
def PySem.W.Fast.tw1160382954669561299:Nat:=0
def PySem.W.Fast.tw16355279313544152765:Nat:=0
def PySem.W.Fast.tw8076929371982564968:Nat:=0
def PySem.W.Fast.tw3937262289722784557:Nat:=0
def PySem.W.Fast.tw340669117469541188:Nat:=0
def PySem.W.Fast.tw18029417866951163012:Nat:=0
def PySem.W.Fast.tw17496814728242195963:Nat:=0
def PySem.W.Fast.tw12581256502018962526:Nat:=0
def PySem.W.Fast.tw3173052638272945348:Nat:=0
def PySem.W.Fast.tw3758411959692147757:Nat:=0
def PySem.W.Fast.tw12907806600391074220:Nat:=0
def PySem.W.Fast.tw15403363729052645331:Nat:=0
def PySem.W.Fast.tw4238619942507345391:Nat:=0
def PySem.W.Fast.tw5011215386271556529:Nat:=0
def PySem.W.Fast.tw5214822702968923847:Nat:=0
def PySem.W.Fast.tw18407582532766148348:Nat:=0
def PySem.W.Fast.tw6444186421858601500:Nat:=0
def PySem.W.Fast.tw10593738953789619988:Nat:=0
def PySem.W.Fast.tw9945281027903842840:Nat:=0
def PySem.W.Fast.tw4407405021934954523:Nat:=0
def PySem.W.Fast.tw1054209390847340852:Nat:=0
def PySem.W.Fast.tw13514981866109237446:Nat:=0
def PySem.W.Fast.tw2402447628094425846:Nat:=0
def PySem.W.Fast.tw12148269830267314464:Nat:=0
def PySem.W.Fast.tw5655634148028754076:Nat:=0
def PySem.W.Fast.tw8006693132471821302:Nat:=0
def PySem.W.Fast.tw13767925611142080256:Nat:=0
def PySem.W.Fast.tw2147411057532221778:Nat:=0
def PySem.W.Fast.tw846173117834073590:Nat:=0
def PySem.W.Fast.tw17827027850144763570:Nat:=0
def PySem.W.Fast.tw11148993873416727546:Nat:=0
def PySem.W.Fast.tw172517093935068427:Nat:=0
def PySem.W.Fast.tw9061571449738296287:Nat:=0
def PySem.W.Fast.tw3512683629610936962:Nat:=0
def PySem.W.Fast.tw13282880550420280547:Nat:=0
def PySem.W.Fast.tw14541693542737048961:Nat:=0
def PySem.W.Fast.tw1165695380955955589:Nat:=0
def PySem.W.Fast.tw17824729026800250634:Nat:=0
def PySem.W.Fast.tw3597784478498847103:Nat:=0
def PySem.W.Fast.tw14433919931832549331:Nat:=0
def PySem.W.Fast.tw9072149017735821259:Nat:=0
def PySem.W.Fast.tw15123433300872515751:Nat:=0
def PySem.W.Fast.tw13740942843754317314:Nat:=0
def PySem.W.Fast.tw12652671578916496478:Nat:=0
def PySem.W.Fast.tw12264252014269634908:Nat:=0
def PySem.W.Fast.tw3603567668487544913:Nat:=0
def PySem.W.Fast.tw14895856189739915197:Nat:=0
def PySem.W.Fast.tw2123345834448189290:Nat:=0
def PySem.W.Fast.tw2591263434365076761:Nat:=0
def PySem.W.Fast.tw15197355604922723971:Nat:=0
def PySem.W.Fast.tw9716225921101490694:Nat:=0
def PySem.W.Fast.tw3186252732733312875:Nat:=0
def PySem.W.Fast.tw12089886957945750344:Nat:=0
def PySem.W.Fast.tw10667602356229438767:Nat:=0
def PySem.W.Fast.tw3922074987676956289:Nat:=0
def PySem.W.Fast.tw11988458825937221769:Nat:=0
def PySem.W.Fast.tw4141942217260305387:Nat:=0
def PySem.W.Fast.tw5969964727567121818:Nat:=0
def PySem.W.Fast.tw17874096834221406303:Nat:=0
def PySem.W.Fast.tw16395531435092488131:Nat:=0
def PySem.W.Fast.tw1721623798298188524:Nat:=0
def PySem.W.Fast.tw10126620808611460126:Nat:=0
def PySem.W.Fast.tw10385792317388258204:Nat:=0
def PySem.W.Fast.tw7804646563131570454:Nat:=0
def PySem.W.Fast.tw830531692583681634:Nat:=0
def PySem.W.Fast.tw16383175614127911446:Nat:=0
def PySem.W.Fast.tw16706778985808947191:Nat:=0
def PySem.W.Fast.tw13272403342895735219:Nat:=0
def PySem.W.Fast.tw3800583450442485195:Nat:=0
def PySem.W.Fast.tw2624056352256844084:Nat:=0
def PySem.W.Fast.tw4640957525726641794:Nat:=0
def PySem.W.Fast.tw17011231738166357148:Nat:=0
set_option Elab.async false
set_option linter.all false
set_option maxRecDepth 100000
namespace L2
open PySem PySem.Spec PyProof.Rows
abbrev Key:=Sum Int Str
def sW:Key->Value->Bool
 | .inl k,v=>Value.isInt k v
 | .inr x,v=>Value.isStrOf x v
def aGd (w:World):Key->Int
 | .inl k=>hashInt k
 | .inr x=>hashStr w x
theorem cP:∀ {k:Key} {v:Value},sW k v=true->(∃ i t,k=Sum.inl i/\v=Value.int i t)∨(∃ x t,k=Sum.inr x/\v=Value.str x t)
 | .inl i,v,h=>by
  obtain ⟨t,e⟩:=Value.isInt_shape (k:=i) (v:=v) h
  exact .inl ⟨i,t,rfl,e⟩
 | .inr x,v,h=>by
  obtain ⟨t,e⟩:=Value.isStrOf_shape (x:=x) (v:=v) h
  exact .inr ⟨x,t,rfl,e⟩
theorem aAy (i:Int) (t:Tok):sW (.inl i) (.int i t)=true:=by simp [sW,Value.isInt]
theorem aAz (x:Str) (t:Tok):sW (.inr x) (.str x t)=true:=by simp [sW,Value.isStrOf]
theorem aEB (a b:Int):decide ((Sum.inl a:Key)=Sum.inl b)=(a==b):=by
 by_cases e:a=b
 ·subst e; simp
 ·have h:¬ (Sum.inl a:Key)=Sum.inl b:=fun q=>e (Sum.inl.inj q)
  rw [decide_eq_false h]
  exact (beq_eq_false_iff_ne.mpr e).symm
theorem aEC (a b:Str):decide ((Sum.inr a:Key)=Sum.inr b)=decide (a=b):=by
 by_cases e:a=b
 ·subst e; simp
 ·have h:¬ (Sum.inr a:Key)=Sum.inr b:=fun q=>e (Sum.inr.inj q)
  rw [decide_eq_false h,decide_eq_false e]
theorem aED (a:Int) (b:Str):decide ((Sum.inl a:Key)=Sum.inr b)=false:=decide_eq_false (fun q=>nomatch q)
theorem aEE (a:Str) (b:Int):decide ((Sum.inr a:Key)=Sum.inl b)=false:=decide_eq_false (fun q=>nomatch q)
def bC (prog:Program) (w:World):PySem.KeyKind prog w Key where
 is:=sW
 hash:=aGd w
 inj:=fun v a b ha hb=>by
  rcases cP ha with ⟨i,t,rfl,rfl⟩ | ⟨x,t,rfl,rfl⟩
  ·rcases cP hb with ⟨j,u,rfl,e⟩ | ⟨y,u,rfl,e⟩
   ·injection e with e1 _; rw [e1]
   ·exact nomatch e
  ·rcases cP hb with ⟨j,u,rfl,e⟩ | ⟨y,u,rfl,e⟩
   ·exact nomatch e
   ·injection e with e1 _; rw [e1]
 byValue:=fun k v h=>by
  rcases cP h with ⟨i,t,rfl,rfl⟩ | ⟨x,t,rfl,rfl⟩ <;> rfl
 pyHash:=fun hv h=>by
  rcases cP hv with ⟨i,t,rfl,rfl⟩ | ⟨x,t,rfl,rfl⟩
  ·exact wpAny_pyHash_int h
  ·exact wpAny_pyHash_str h
 eqBool:=fun hu hv h=>by
  rcases cP hu with ⟨i,t,rfl,rfl⟩ | ⟨x,t,rfl,rfl⟩
  ·rcases cP hv with ⟨j,u,rfl,rfl⟩ | ⟨y,u,rfl,rfl⟩
   ·rw [aEB] at h; exact wpAny_eqBool_int h
   ·rw [aED] at h; exact SeqAt.EqAt.int_str i t y u _ _ _ _ h
  ·rcases cP hv with ⟨j,u,rfl,rfl⟩ | ⟨y,u,rfl,rfl⟩
   ·rw [aEE] at h; exact SeqAt.EqAt.str_int x t j u _ _ _ _ h
   ·rw [aEC] at h; exact wpAny_eqBool_str h
 «strs»:=fun k x t v h=>by
  rcases cP h with ⟨i,u,rfl,e⟩ | ⟨y,u,rfl,e⟩
  ·exact nomatch e
  ·injection e with e1 _
   subst e1
   cases v <;> rfl
theorem vJ (prog:Program) (w:World) (i:Int) (t:Tok):(bC prog w).is (.inl i) (.int i t)=true:=aAy i t
theorem vK (prog:Program) (w:World) (x:Str) (t:Tok):(bC prog w).is (.inr x) (.str x t)=true:=aAz x t
inductive V where
 | non | bl (b:Bool) | int (i:Int) | str (x:Str) | byt (b:Array UInt8) | flt (b:UInt64) | ref (a:Addr) | ty (n:String)
 deriving DecidableEq
def bD:V->Value->Prop
 | .non,u=>u=Value.none
 | .bl b,u=>u=Value.bool b
 | .int i,u=>∃ t,u=Value.int i t
 | .str x,u=>∃ t,u=Value.str x t
 | .byt b,u=>∃ t,u=Value.bytes b t
 | .flt b,u=>∃ t,u=Value.float b t
 | .ref a,u=>u=Value.ref a
 | .ty n,u=>u=Value.type n
abbrev bA:List V->List Value->Prop:=Paired bD
theorem bA.length {xs:List V} {us:List Value} (r:bA xs us):xs.length=us.length:=Paired.length r
theorem bA.get:∀ {xs:List V} {us:List Value} {i:Nat} {x:V},bA xs us->xs[i]?=some x->∃ u,us[i]?=some u/\bD x u
 | _,_,_,_,.nil,e=>by simp at e
 | _,_,0,_,.cons r _,e=>by simp at e; subst e; exact ⟨_,rfl,r⟩
 | _,_,i+1,x,.cons _ t,e=>by
  obtain ⟨u,h1,h2⟩:=bA.get (i:=i) (x:=x) t (by simpa using e)
  exact ⟨u,by simpa using h1,h2⟩
theorem bA.set {x:V} {u:Value} (r:bD x u):∀ {xs:List V} {us:List Value} (i:Nat),bA xs us->bA (xs.set i x) (us.set i u)
 | _,_,_,.nil=>.nil
 | _,_,0,.cons _ t=>.cons r t
 | _,_,i+1,.cons q t=>.cons q (bA.set r i t)
theorem bA.append:∀ {xs ys:List V} {us ws:List Value},bA xs us->bA ys ws->bA (xs++ys) (us++ws)
 := by
 intro xs ys us ws h s
 induction h with
 | nil=>exact s
 | cons r t ih=>exact .cons r ih
theorem bA.take:∀ {xs:List V} {us:List Value} (n:Nat),bA xs us->bA (xs.take n) (us.take n)
 | _,_,0,_=>.nil
 | _,_,_+1,.nil=>.nil
 | _,_,n+1,.cons r t=>.cons r (bA.take n t)
theorem bA.drop:∀ {xs:List V} {us:List Value} (n:Nat),bA xs us->bA (xs.drop n) (us.drop n)
 | _,_,0,r=>r
 | _,_,_+1,.nil=>.nil
 | _,_,n+1,.cons _ t=>bA.drop n t
def oS:Option V->Option Value->Prop
 | some v,some u=>bD v u
 | none,none=>True
 | _,_=>False
def KV {κ:Type}:List (κ×V)->List (κ×Value)->Prop:=Paired fun (p:κ×V) (q:κ×Value)=>p.1=q.1/\bD p.2 q.2
def kV:Key->V
 | .inl i=>.int i
 | .inr x=>.str x
inductive HO where
 /-- a list -/
 | lst (xs:List V)
 /-- a tuple (never changes) -/
 | tup (xs:List V)
 /-- a dict whose keys are ints and texts; one whose keys are tuples of ints and texts (the empty one is both) -/
 | dK (kvs:List (Key×V)) | dT (kvs:List (List Key×V))
 /-- a set of ints: its members,its size -/
 | set (S:Int->Bool) (n:Nat)
 /-- an instance of the class at C,its dict at dx,its attributes -/
 | ins (C dx:Addr) (fs:List (Str×V))
 /-- the dict of the instance at x -/
 | own (x:Addr)
 /-- the dict of an exception -/
 | xd (fs:List (Str×V))
 /-- a bound method,f of x -/
 | met (f x:Addr)
 /-- a range object lo,lo+1,.. below hi -/
 | rng (lo hi:Int)
 /-- a thing that is known to the object (the script; a dict while a loop walks it): read,never written while it is so -/
 | frz (o:Obj) (u:HO)
 /-- a code object's table -/
 | tbl (ps:Array Value)
 /-- a code object's table,all of whose codes have the name q; they are tracked as its own -/
 | tab (q:Str)
 /-- any other thing,by what is true of its one object (a def of one's own: aGw a S n:=HO.ext fun h=>..) -/
 | ext (φ:Heap->Prop)
abbrev Hp:=Addr->Option HO
def upd (H:Hp) (a:Addr) (o:HO):Hp:=fun b=>if b=a then some o else H b
theorem aB {H:Hp} {a:Addr} {o:HO}:upd H a o a=some o:=by unfold upd; rw [if_pos rfl]
theorem aG {H:Hp} {a b:Addr} {o:HO} (h:b≠a):upd H a o b=H b:=by unfold upd; rw [if_neg h]
theorem zI {H:Hp} {a:Addr} {o u:HO}:upd (upd H a o) a u=upd H a u:=by
 funext b; unfold upd; split <;> rfl
theorem aFo {H:Hp} {a b:Addr} {o u:HO} (h:H a=some o) (h':H b=some u) (d:o≠u):a≠b:=by
 intro e; subst e; rw [h] at h'; exact d (Option.some.inj h')
theorem cT {H:Hp} {a b:Addr} {o:HO} (h:H a=some o) (h':H b=none):a≠b:=by
 intro e; subst e; rw [h] at h'; cases h'
section
variable (P:Program) (w:World)
def bW (H:Hp) (h:Heap) (a:Addr):HO->Prop
 | .lst xs=>xs.length<=sizeLine/\∃ (its:List Value) (n:Nat),bA xs its/\h.get? a=some { cls:=.type "list",data:=.seq its.toArray n }
 | .tup xs=>xs.length<=sizeLine/\∃ (its:List Value) (n:Nat),bA xs its/\h.get? a=some { cls:=.type "tuple",data:=.seq its.toArray n }
 | .dK kvs=>kvs.length<=sizeLine/\(a==sysModules)=false/\∃ vs,KV kvs vs/\h.DictOf (bC P w) a vs
 | .dT kvs => kvs.length <= sizeLine /\ (a == sysModules) = false /\ ∃ xs : List (List Key × Addr × Value),
     Paired (fun (p:List Key×V) (q:List Key×Addr×Value)=>p.1=q.1/\H q.2.1=some (.tup (p.1.map kV))/\bD p.2 q.2.2) kvs xs /\
     ∃ o es ep,h.get? a=some o/\o.ExactDict/\o.data=.dict es ep/\es.toList=xs.map (entryOfKey (tupleKind (bC P w)))/\(xs.map (·.1)).Nodup
 | .set S n=>h.SetOf (intKind P w) a S n
 | .ins C dx fs => H dx = some (.own a) /\ fs.length <= 1000 /\ dx ≠ a /\ h.get? a = some (PySem.W.instObj C dx) /\
     ∃ mA,h.Ns1 dx mA/\(∀ f,oS (fs.lookup f) (mA f))/\PySem.Within mA (fs.map (·.1))
 | .own _=>∃ o,h.get? a=some o
 | .xd fs=>∃ mA,h.Ns1 a mA/\∀ f,oS (fs.lookup f) (mA f)
 | .rng lo hi=>∃ t u v,h.get? a=some { cls:=.type "range",data:=.fields #[.int lo t,.int hi u,.int 1 v] }
 | .frz o u=>h.get? a=some o/\bW H h a u
 | .tbl ps=>h.get? a=some { cls:=.none,data:=.fields ps }
 | .tab q=>∃ ps:Array Value,h.get? a=some { cls:=.none,data:=.fields ps }/\TriplesOk ps.toList/\∀ (pos:Pos) (cv:Value),codeAmong pos ps.toList=some cv->∃ (c:Addr) (o:Obj) (vs:Array Value) (t:Tok),cv=.ref c/\H c=some (.own a)/\h.get? c=some o/\o.data=.fields vs/\vs[1]?=some (.str q t)
 | .met f x=>h.get? a=some (PySem.W.methodObj (.ref f) (.ref x))
 | .ext φ=>φ h/\(∃ o,h.get? a=some o)/\∀ h1 h2:Heap,φ h1->(∀ o,h1.get? a=some o->h2.get? a=some o)->φ h2
def HOk (H:Hp) (h:Heap):Prop:=∀ a o,H a=some o->bW P w H h a o
end
section
variable {P:Program} {w:World} {H H':Hp} {h h':Heap} {a:Addr} {o:HO}
theorem bW.lt (x:bW P w H h a o):a < h.objs.size:=by
 cases o with
 | lst xs=>obtain ⟨_,_,_,_,e⟩:=x; exact Qm e
 | tup xs=>obtain ⟨_,_,_,_,e⟩:=x; exact Qm e
 | dK kvs=>obtain ⟨_,_,_,_,o,_,_,e,_⟩:=x; exact Qm e
 | dT kvs=>obtain ⟨_,_,_,_,o,_,_,e,_⟩:=x; exact Qm e
 | set S n=>obtain ⟨o,_,_,_,e,_⟩:=x; exact Qm e
 | ins C dx fs=>obtain ⟨_,_,_,e,_⟩:=x; exact Qm e
 | own y=>obtain ⟨_,e⟩:=x; exact Qm e
 | xd fs=>obtain ⟨_,⟨_,_,_,e,_⟩,_⟩:=x; exact Qm e
 | rng lo hi=>obtain ⟨_,_,_,e⟩:=x; exact Qm e
 | frz ob u=>obtain ⟨e,_⟩:=x; exact Qm e
 | tbl ps=>exact Qm (show h.get? a=some _ from x)
 | tab q=>obtain ⟨_,e,_⟩:=x; exact Qm e
 | met f y=>exact Qm (show h.get? a=some _ from x)
 | ext φ=>obtain ⟨_,⟨_,e⟩,_⟩:=x; exact Qm e
theorem Paired.mapP {α β:Type} {F G:α->β->Prop}:∀ {l₁:List α} {l₂:List β},Paired F l₁ l₂->(∀ a b,F a b->G a b)->Paired G l₁ l₂
 := by
 intro l₁ l₂ h f
 induction h with
 | nil=>exact .nil
 | cons r t ih=>exact .cons (f _ _ r) ih
theorem bW.stay (x:bW P w H h a o) (k:∀ b u,(b=a∨H b=some (.own a))->h.get? b=some u->h'.get? b=some u)
  (ho:∀ b,H b=some (.own a)->H' b=some (.own a)) (ht:∀ b xs,H b=some (.tup xs)->H' b=some (.tup xs)):bW P w H' h' a o:=by
 induction o with
 | lst xs=>obtain ⟨z,its,n,r,e⟩:=x; exact ⟨z,its,n,r,k _ _ (.inl rfl) e⟩
 | tup xs=>obtain ⟨z,its,n,r,e⟩:=x; exact ⟨z,its,n,r,k _ _ (.inl rfl) e⟩
 | dK kvs=>obtain ⟨z,y,vs,r,ob,es,ep,e,c⟩:=x; exact ⟨z,y,vs,r,ob,es,ep,k _ _ (.inl rfl) e,c⟩
 | dT kvs =>
  obtain ⟨z,y,xs,r,ob,es,ep,e,c⟩:=x
  exact ⟨z,y,xs,Paired.mapP r fun p q z=>⟨z.1,ht _ _ z.2.1,z.2.2⟩,ob,es,ep,k _ _ (.inl rfl) e,c⟩
 | set S n=>obtain ⟨ob,es,ep,t,e,c⟩:=x; exact ⟨ob,es,ep,t,k _ _ (.inl rfl) e,c⟩
 | ins C dx fs =>
  obtain ⟨d,z,ne,e,mA,⟨od,es,ep,e2,c⟩,r⟩:=x
  exact ⟨ho _ d,z,ne,k _ _ (.inl rfl) e,mA,⟨od,es,ep,k _ _ (.inr d) e2,c⟩,r⟩
 | own y=>obtain ⟨ob,e⟩:=x; exact ⟨ob,k _ _ (.inl rfl) e⟩
 | xd fs=>obtain ⟨mA,⟨od,es,ep,e,c⟩,r⟩:=x; exact ⟨mA,⟨od,es,ep,k _ _ (.inl rfl) e,c⟩,r⟩
 | rng lo hi=>obtain ⟨t,u,v,e⟩:=x; exact ⟨t,u,v,k _ _ (.inl rfl) e⟩
 | frz ob u ih=>obtain ⟨e,q⟩:=x; exact ⟨k _ _ (.inl rfl) e,ih q⟩
 | tbl ps =>
  have e:h.get? a=some { cls:=.none,data:=.fields ps }:=x
  show h'.get? a=some { cls:=.none,data:=.fields ps }
  exact k a _ (.inl rfl) e
 | tab q =>
  obtain ⟨ps,e,z,r⟩:=x
  refine ⟨ps,k _ _ (.inl rfl) e,z,fun pos cv q=>?_⟩
  obtain ⟨c,o,vs,t,r1,r2,r3,r4⟩:=r pos cv q
  exact ⟨c,o,vs,t,r1,ho _ r2,k _ _ (.inr r2) r3,r4⟩
 | met f y =>
  have e:h.get? a=some (PySem.W.methodObj (.ref f) (.ref y)):=x
  show h'.get? a=some (PySem.W.methodObj (.ref f) (.ref y))
  exact k a _ (.inl rfl) e
 | ext φ=>obtain ⟨p,⟨o,e⟩,st⟩:=x; exact ⟨st _ _ p fun o q=>k _ _ (.inl rfl) q,⟨o,k _ _ (.inl rfl) e⟩,st⟩
theorem HOk.lt (x:HOk P w H h) (e:H a=some o):a < h.objs.size:=(x a o e).lt
theorem HOk.fresh (x:HOk P w H h) (e:h.objs.size<=a):H a=none:=by
 cases q:H a with
 | none=>rfl
 | some u=>exact absurd (Qi (x.lt q) e) (Qu _)
theorem HOk.kept (x:HOk P w H h) (k:∀ b u,h.get? b=some u->h'.get? b=some u):HOk P w H h':=fun a o e =>
 (x a o e).stay (fun b u _ q=>k b u q) (fun _ q=>q) fun _ _ q=>q
theorem HOk.laid (x:HOk P w H h) (k:∀ b u,h.get? b=some u->h'.get? b=some u) (hp:h.objs.size<=a) (new:bW P w (upd H a o) h' a o):HOk P w (upd H a o) h':=fun b u e=>by
 have hn:=x.fresh hp
 by_cases hb:b=a
 ·subst hb; rw [aB] at e; cases e; exact new
 ·rw [aG hb] at e
  exact (x b u e).stay (fun c v _ q=>k c v q) (fun c q=>by rw [aG (cT q hn)]; exact q) fun c xs q=>by rw [aG (cT q hn)]; exact q
end
def Rd (H:Hp) (a:Addr) (u:HO):Prop:=H a=some u∨∃ o,H a=some (.frz o u)
theorem Rd.of {H:Hp} {a:Addr} {u:HO} (h:H a=some u):Rd H a u:=.inl h
theorem Rd.ok {P:Program} {w:World} {H:Hp} {h:Heap} {a:Addr} {u:HO} (r:Rd H a u) (x:HOk P w H h):bW P w H h a u:=by
 rcases r with r | ⟨o,r⟩
 ·exact x a u r
 ·obtain ⟨_,q⟩:=x a _ r
  exact q
def Mut:Option HO->Prop
 | some (.lst _)=>True
 | some (.dK _)=>True
 | some (.dT _)=>True
 | some (.set _ _)=>True
 | some (.ins _ _ _)=>True
 | some (.ext _)=>True
 | some (.tab _)=>True
 | _=>False
section
variable {P:Program} {w:World} {H:Hp} {h h':Heap} {x e:Addr} {o':HO}
theorem HOk.write (ok:HOk P w H h) (mu:Mut (H x)) (he:e=x∨H e=some (.own x)) (k:∀ b u,b≠e->h.get? b=some u->h'.get? b=some u) (heo:∃ u,h'.get? e=some u)
  (new:bW P w (upd H x o') h' x o'):HOk P w (upd H x o') h':=fun b u q=>by
 have nown:∀ c y,H c=some (.own y)->c≠x:=fun c y r z=>by subst z; rw [r] at mu; exact mu
 have ntup:∀ c xs,H c=some (.tup xs)->c≠x:=fun c xs r z=>by subst z; rw [r] at mu; exact mu
 by_cases hb:b=x
 ·subst hb; rw [aB] at q; cases q; exact new
 ·rw [aG hb] at q
  by_cases hbe:b=e
  ·have q':H b=some (.own x):=by
    rcases he with z | z
    ·exact absurd (hbe.trans z) hb
    ·rw [hbe]; exact z
   rw [q] at q'; cases q'
   obtain ⟨v,hv⟩:=heo
   exact ⟨v,by rw [hbe]; exact hv⟩
  ·refine (ok b u q).stay (fun c v hc r=>k c v ?_ r) (fun c r=>by rw [aG (nown c b r)]; exact r) fun c xs r=>by rw [aG (ntup c xs r)]; exact r
   rcases hc with rfl | hc
   ·exact hbe
   ·rintro rfl
    rcases he with z | z
    ·exact nown c b hc z
    ·rw [hc] at z; cases z; exact hb rfl
end
structure Un (fs ex:List Addr) (H H':Hp) (h h':Heap):Prop where
 keep:∀ b o,h.get? b=some o->H b=none->b∉fs->b∉ex->h'.get? b=some o
 slot:∀ b o,h.get? b=some o->H b=none->b∈fs->b∉ex->∃ sl,h'.get? b=some { o with slots:=sl }
 free:∀ b o,h.get? b=some o->H b=none->b∉ex->H' b=none
 there:∀ b o,h.get? b=some o->b∉ex->∃ o',h'.get? b=some o'
 tups:∀ b xs,H b=some (.tup xs)->H' b=some (.tup xs)
 frzs:∀ b o u,H b=some (.frz o u)->H' b=some (.frz o u)
 tbls:∀ b ps,H b=some (.tbl ps)->∃ more,H' b=some (.tbl (ps++more))
section
variable {fs fs' ex ex':List Addr} {H H1 H2:Hp} {h h1 h2 h':Heap} {a x e:Addr} {o:HO}
theorem Un.any (u:Un fs ex H H1 h h1) {b:Addr} {ob:Obj} (q:h.get? b=some ob) (n:H b=none) (hx:b∉ex):∃ sl,h1.get? b=some { ob with slots:=sl }:=by
 by_cases hb:b∈fs
 ·exact u.slot b ob q n hb hx
 ·exact ⟨ob.slots,u.keep b ob q n hb hx⟩
theorem Un.trans (a:Un fs ex H H1 h h1) (b:Un fs ex H1 H2 h1 h2):Un fs ex H H2 h h2 where
 keep:=fun c ob q n hc hx=>b.keep c ob (a.keep c ob q n hc hx) (a.free c ob q n hx) hc hx
 slot:=fun c ob q n hc hx=>by
  obtain ⟨sl,e1⟩:=a.slot c ob q n hc hx
  obtain ⟨sl',e2⟩:=b.slot c _ e1 (a.free c ob q n hx) hc hx
  exact ⟨sl',e2⟩
 free:=fun c ob q n hx=>by
  obtain ⟨o',e1⟩:=a.there c ob q hx
  exact b.free c o' e1 (a.free c ob q n hx) hx
 there:=fun c ob q hx=>by
  obtain ⟨o',e1⟩:=a.there c ob q hx
  exact b.there c o' e1 hx
 tups:=fun c xs q=>b.tups c xs (a.tups c xs q)
 frzs:=fun c ob xs q=>b.frzs c ob xs (a.frzs c ob xs q)
 tbls:=fun c ps q=>by
  obtain ⟨m1,e1⟩:=a.tbls c ps q
  obtain ⟨m2,e2⟩:=b.tbls c _ e1
  exact ⟨m1++m2,by rw [e2,Array.append_assoc]⟩
theorem Un.kept (k:∀ b u,h.get? b=some u->h'.get? b=some u):Un fs ex H H h h' :=
 ⟨fun b ob q _ _ _=>k b ob q,fun b ob q _ _ _=>⟨ob.slots,k b ob q⟩,fun _ _ _ n _=>n,fun b ob q _=>⟨ob,k b ob q⟩,fun _ _ q=>q,fun _ _ _ q=>q,fun _ ps q=>⟨#[],by rw [q]; simp⟩⟩
theorem Un.refl:Un fs ex H H h h:=Un.kept fun _ _ q=>q
theorem Un.laid (k:∀ b u,h.get? b=some u->h'.get? b=some u) (hp:h.objs.size<=a) (hn:H a=none):Un fs ex H (upd H a o) h h' where
 keep:=fun b u q _ _ _=>k b u q
 slot:=fun b u q _ _ _=>⟨u.slots,k b u q⟩
 free:=fun b u q n _=>by rw [aG (Jq (Qi (Qm q) hp))]; exact n
 there:=fun b u q _=>⟨u,k b u q⟩
 tups:=fun b xs q=>by rw [aG (cT q hn)]; exact q
 frzs:=fun b u xs q=>by rw [aG (cT q hn)]; exact q
 tbls:=fun b ps q=>⟨#[],by rw [aG (cT q hn),q]; simp⟩
theorem Un.write (mu:Mut (H x)) (he:e=x∨H e=some (.own x)) (k:∀ b u,b≠e->h.get? b=some u->h'.get? b=some u) (heo:∃ u,h'.get? e=some u):Un fs ex H (upd H x o) h h':=by
 have hx:∀ b,H b=none->b≠x:=fun b n z=>by subst z; rw [n] at mu; exact mu
 have hb:∀ b,H b=none->b≠e:=fun b n z=>by
  subst z
  rcases he with r | r
  ·exact hx b n r
  ·rw [n] at r; cases r
 have hm:∀ b u,H b=some u->¬ Mut (some u)->b≠x:=fun b u q nm z=>by subst z; rw [q] at mu; exact nm mu
 refine ⟨fun b u q n _ _=>k b u (hb b n) q,fun b u q n _ _=>⟨u.slots,k b u (hb b n) q⟩,fun b u q n _=>by rw [aG (hx b n)]; exact n,fun b u q _=>?_,
  fun b xs q=>by rw [aG (hm b _ q fun z=>z)]; exact q,fun b u xs q=>by rw [aG (hm b _ q fun z=>z)]; exact q,fun b ps q=>⟨#[],by rw [aG (hm b _ q fun z=>z),q]; simp⟩⟩
 by_cases hbe:b=e
 ·subst hbe; exact heo
 ·exact ⟨u,k b u hbe q⟩
theorem Un.mono (u:Un fs ex H H1 h h1) (hs:∀ b∈fs,b∈fs') (hx:∀ b∈ex,b∈ex'):Un fs' ex' H H1 h h1 :=
 ⟨fun b ob q n hb he=>u.keep b ob q n (fun z=>hb (hs b z)) fun z=>he (hx b z),fun _ _ q n _ he=>u.any q n fun z=>he (hx _ z),fun b ob q n he=>u.free b ob q n fun z=>he (hx b z),fun b ob q he=>u.there b ob q fun z=>he (hx b z),u.tups,u.frzs,u.tbls⟩
end
def trk (h:Heap) (H:Hp):List Addr:=(List.range h.objs.size).filter fun a=>(H a).isSome
def sH (h:Heap) (H:Hp):Heap:=PySem.W.hideAll h (trk h H)
theorem aAA (h:Heap) (H:Hp):(sH h H).objs.size=h.objs.size:=PySem.W.hideAll_size _ _
theorem aBr {h:Heap} {H:Hp} {b:Addr} {o:Obj} (e:h.get? b=some o) (n:H b=none):(sH h H).get? b=some o :=
 PySem.W.hideAll_get _ e fun hm=>by
  have q:(H b).isSome=true:=(Qy.mp hm).2
  rw [n] at q; simp at q
theorem aC2 {h:Heap} {H:Hp} {b:Addr} {o:Obj} (e:(sH h H).get? b=some o):h.get? b=some o/\H b=none:=by
 have e':h.get? b=some o:=PySem.W.of_hideAll (trk h H) e
 refine ⟨e',?_⟩
 cases q:H b with
 | none=>rfl
 | some x =>
  have hm:b∈trk h H:=Qy.mpr ⟨Jt.mpr (Qm e'),by simp [q]⟩
  have z:(sH h H).get? b=none:=PySem.W.hideAll_none (trk h H) hm
  rw [z] at e; cases e
def aC3 (g h:Heap) (L:Addr):List (Addr×Obj):=(List.range h.objs.size).filterMap fun a=>if a=L∨(g.get? a).isSome=true then none else (h.get? a).map fun o=>(a,o)
def iP (g h:Heap) (L d:Addr):List (Addr×Obj):=(aC3 g h L).filter fun p=>decide (p.1≠d)
structure Mod (K:PySem.W.Frag) (mg:Str->Option Value) (base:Heap):Prop where
 kin:K.In base
 glob:base.Ns mainGlobals mg
 blt:∃ mb,base.Ns builtinsNs mb/\∀ x:Str,x ≠ "__name__" -> mb x=bootBuiltins x
 nolimit:base.NoLimit
 mods:∃ mm,base.Ns sysModules mm
structure Cx where
 prog:Program
 w:World
 K:PySem.W.Frag
 mg:Str->Option Value
 base:Heap
 A:Around
 N:List Str
 s₀:Shared
 H₀:Hp
 env:Env
 outer:List Env
 stack:List Env
 ex:List Addr
 fn:Str->Bool
 calm:Bool
 pn:List (Addr×Obj)
 xe:Value->Shared->Prop
def frs (l:List Env):List Addr:=l.filterMap (·.frame)
abbrev Cx.fs (X:Cx):List Addr:=frs X.outer
def Vis (sc:Scope) (x:Str):Prop:=sc.names.lookup x=some .local∨sc.names.lookup x=some .cell∨sc.names.lookup x=some .free
def Loc (sc:Scope) (x:Str):Prop:=sc.names.lookup x=some .local∨sc.names.lookup x=some .cell
def aEF (env:Env) (h:Heap) (m:Str->Option Value) (x:Str) (u:Value):Prop :=
 (env.kindOf x=some .local/\m x=some u)∨((env.kindOf x=some .cell∨env.kindOf x=some .free)/\∃ c,env.cells.lookup x=some c/\h.IsCell c (some u))
structure Cx.Ok (X:Cx):Prop where
 mod:Mod X.K X.mg X.base
 kind:X.env.scope.kind=.function
 glob:X.env.globals=mainGlobals
 blt:X.env.builtins=builtinsNs
 above:X.s₀.heap.objs.size<=X.env.locals
 inj:∀ x y c,X.env.cells.lookup x=some c->X.env.cells.lookup y=some c->x=y
 has:∀ x,(X.env.kindOf x=some .cell∨X.env.kindOf x=some .free)->∃ c,X.env.cells.lookup x=some c
 cab:∀ x c,X.fn x=true->X.env.cells.lookup x=some c->X.s₀.heap.objs.size<=c
 hd:X.calm=true->X.A.handled=none
 frames:X.A.frames=some X.stack
 stk:X.stack=X.outer∨(X.stack=X.env::X.outer/\X.env.frame=some X.env.locals)
 exf:∀ b∈X.ex,b≠X.env.locals/\∀ x c,X.env.cells.lookup x=some c->c≠b
 bs:∀ b o,X.base.get? b=some o->X.s₀.heap.get? b=some o/\X.H₀ b=none
 bsz:X.base.objs.size<=X.s₀.heap.objs.size
 noex:∀ b o,X.base.get? b=some o->b∉X.ex
 exfs:∀ b∈X.ex,b∉X.fs
 funs:X.s₀.heap.FunFrames X.base X.outer
 frf:∀ b∈X.fs,X.H₀ b=none
structure Inv (X:Cx) (pins:List (Addr×Obj)) (σ:List (Option V)) (H:Hp) (s:Shared):Prop where
 ok:X.Ok
 os:s.os=X.s₀.os
 bare:AllBare s.gens
 base:Un X.fs X.ex X.H₀ H X.s₀.heap s.heap
 loc:∃ m,s.heap.Ns X.env.locals m/\∀ (i:Nat) (x:Str) (v:V),X.N[i]?=some x->σ[i]?=some (some v)->Vis X.env.scope x->∃ u,bD v u/\aEF X.env s.heap m x u
 cell:∀ x c,X.env.cells.lookup x=some c->∃ v,s.heap.IsCell c v
 free:H X.env.locals=none
 freeC:∀ x c,X.env.cells.lookup x=some c->H c=none
 pin:∀ p∈X.pn++pins,s.heap.get? p.1=some p.2/\H p.1=none/\p.1≠X.env.locals/\p.1∉X.fs/\∀ v,p.2.data≠.cell v
 hok:HOk X.prog X.w H s.heap
 len:σ.length=X.N.length
section
variable {X:Cx} {pins:List (Addr×Obj)} {σ:List (Option V)} {H H':Hp} {s:Shared} {h':Heap}
theorem Cx.Ok.nofr (ok:X.Ok) {b:Addr} {o:Obj} (e:X.base.get? b=some o):b∉X.fs:=fun hb=>by
 have:=(ok.funs.mem hb).1
 rw [e] at this; cases this
theorem Inv.bs (I:Inv X pins σ H s):∀ b o,X.base.get? b=some o->s.heap.get? b=some o/\H b=none:=fun b o e =>
 ⟨I.base.keep b o (I.ok.bs b o e).1 (I.ok.bs b o e).2 (I.ok.nofr e) (I.ok.noex b o e),I.base.free b o (I.ok.bs b o e).1 (I.ok.bs b o e).2 (I.ok.noex b o e)⟩
theorem Inv.bk (I:Inv X pins σ H s):∀ b o,X.base.get? b=some o->s.heap.get? b=some o:=fun b o e=>(I.bs b o e).1
theorem Inv.mod (I:Inv X pins σ H s):Mod X.K X.mg X.base:=I.ok.mod
theorem Inv.kIn (I:Inv X pins σ H s):X.K.In s.heap:=I.ok.mod.kin.keeps I.bk
theorem Inv.nolimit (I:Inv X pins σ H s):s.heap.NoLimit:=I.ok.mod.nolimit.keeps I.bk
theorem Inv.fr (I:Inv X pins σ H s):∃ m,Fr X.base X.env.locals s.heap m :=
 let ⟨m,hn,_⟩:=I.loc
 ⟨m,hn,I.bk,Qv I.ok.bsz I.ok.above⟩
theorem Inv.lt (I:Inv X pins σ H s):X.env.locals < s.heap.objs.size:=let ⟨_,hn,_⟩:=I.loc; hn.lt
theorem Inv.sz (I:Inv X pins σ H s):X.s₀.heap.objs.size<=s.heap.objs.size:=Qv I.ok.above (Zo I.lt)
theorem Inv.nofs (I:Inv X pins σ H s) {a:Addr} (h:s.heap.objs.size<=a):a∉X.fs:=fun hb=>by
 obtain ⟨_,o,ho,_⟩:=I.ok.funs.mem hb
 exact absurd (Qi (Qm ho) (Qv I.sz h)) (Qu _)
theorem Inv.cne (I:Inv X pins σ H s):∀ x c,X.env.cells.lookup x=some c->c≠X.env.locals:=fun x c e z=>by
 obtain ⟨v,o,ho,hd⟩:=I.cell x c e
 obtain ⟨m,⟨o',es,ep,ho',hd',_⟩,_⟩:=I.loc
 rw [z,ho'] at ho; cases ho; rw [hd'] at hd; cases hd
theorem Inv.funs (I:Inv X pins σ H s):s.heap.FunFrames X.base X.outer:=by
 have all:∀ (l:List Env),(∀ b∈frs l,b∈X.fs)->X.s₀.heap.FunFrames X.base l->s.heap.FunFrames X.base l:=by
  intro l
  induction l with
  | nil=>intro _ _; trivial
  | cons env r ih =>
   intro hs hl
   obtain ⟨hk,⟨L,o,hf,hn,ho,hd⟩,hr⟩:=hl
   have hL:L∈X.fs:=hs L (by unfold frs; rw [Zj,hf]; exact Qg)
   obtain ⟨sl,e⟩:=I.base.slot L o ho (I.ok.frf L hL) hL fun z=>I.ok.exfs L z hL
   exact ⟨hk,⟨L,_,hf,hn,e,hd⟩,ih (fun b hb=>hs b (by unfold frs; rw [Zj,hf]; exact Ql _ hb)) hr⟩
 exact all X.outer (fun _ hb=>hb) I.ok.funs
theorem Inv.stack (I:Inv X pins σ H s):s.heap.FunFrames X.base X.stack:=by
 rcases I.ok.stk with e | ⟨e,hf⟩
 ·rw [e]; exact I.funs
 ·rw [e]
  obtain ⟨m,hn,_⟩:=I.loc
  refine .cons (by rw [I.ok.kind]; decide) hf hn ?_ I.funs
  exact Heap.get?_none_of_le (Qv I.ok.bsz I.ok.above)
theorem Inv.stkSub (I:Inv X pins σ H s):∀ b∈frs X.stack,b∈X.env.locals::X.fs:=fun b hb=>by
 rcases I.ok.stk with e | ⟨e,hf⟩
 ·rw [e] at hb; exact Ql _ hb
 ·rw [e] at hb
  unfold frs at hb
  rw [Zj,hf] at hb
  exact hb
theorem Inv.stkFree (I:Inv X pins σ H s):∀ b∈frs X.stack,H b=none:=fun b hb=>by
 rcases Qp.mp (I.stkSub b hb) with e | hb
 ·rw [e]; exact I.free
 ·obtain ⟨_,o,ho,_⟩:=I.ok.funs.mem hb
  exact I.base.free b o ho (I.ok.frf b hb) fun z=>I.ok.exfs b z hb
theorem Inv.step {g':Array GenState} {t':Nat} {d':Drawn} {ch:List Addr} (I:Inv X pins σ H s)
  (hch:∀ b∈ch,(b∈X.ex∨X.s₀.heap.objs.size<=b)/\b≠X.env.locals/\(∀ x c,X.env.cells.lookup x=some c->c≠b)/\∀ p∈X.pn++pins,p.1≠b)
  (keep:∀ b o,b≠X.env.locals->b∉X.fs->b∉ch->s.heap.get? b=some o->H b=none->h'.get? b=some o)
  (slot:∀ b o,b≠X.env.locals->b∈X.fs->b∉ch->s.heap.get? b=some o->H b=none->∃ sl,h'.get? b=some { o with slots:=sl }) (free:∀ b o,b∉ch->s.heap.get? b=some o->H b=none->H' b=none)
  (there:∀ b o,b∉ch->s.heap.get? b=some o->∃ o',h'.get? b=some o')
  (tups:∀ b xs,H b=some (.tup xs)->H' b=some (.tup xs)) (frzs:∀ b o u,H b=some (.frz o u)->H' b=some (.frz o u)) (tbls:∀ b ps,H b=some (.tbl ps)->∃ more,H' b=some (.tbl (ps++more)))
  (ns:∀ m,s.heap.Ns X.env.locals m->h'.Ns X.env.locals m) (hok:HOk X.prog X.w H' h') (hg:AllBare g') :
  Inv X pins σ H' { s with heap:=h',gens:=g',drawn:=d',toks:=t' }:=by
 have neL:∀ b o,X.s₀.heap.get? b=some o->b≠X.env.locals:=fun b o e=>Jq (Qi (Qm e) I.ok.above)
 have neC:∀ b o,X.s₀.heap.get? b=some o->b∉X.ex->b∉ch:=fun b o e hx hb=>by
  rcases (hch b hb).1 with z | z
  ·exact hx z
  ·exact absurd (Qi (Qm e) z) (Qu _)
 have cellK:∀ x c,X.env.cells.lookup x=some c->∀ v,s.heap.IsCell c v->h'.IsCell c v:=fun x c e v ⟨o,ho,hd⟩=>by
  have nch:c∉ch:=fun z=>(hch c z).2.2.1 x c e rfl
  by_cases hc:c∈X.fs
  ·obtain ⟨sl,q⟩:=slot c o (I.cne x c e) hc nch ho (I.freeC x c e)
   exact ⟨_,q,hd⟩
  ·exact ⟨o,keep c o (I.cne x c e) hc nch ho (I.freeC x c e),hd⟩
 refine ⟨I.ok,I.os,hg,⟨fun b o e n hb hx=>?_,fun b o e n hb hx=>?_,fun b o e n hx=>?_,fun b o e hx=>?_,fun b xs e=>tups b xs (I.base.tups b xs e),fun b o xs e=>frzs b o xs (I.base.frzs b o xs e),fun b ps e=>?_⟩,?_,fun x c e=>?_,?_,fun x c e=>?_,fun p hp=>?_,hok,I.len⟩
 ·exact keep b o (neL b o e) hb (neC b o e hx) (I.base.keep b o e n hb hx) (I.base.free b o e n hx)
 ·obtain ⟨sl,e1⟩:=I.base.slot b o e n hb hx
  obtain ⟨sl',e2⟩:=slot b _ (neL b o e) hb (neC b o e hx) e1 (I.base.free b o e n hx)
  exact ⟨sl',e2⟩
 ·obtain ⟨o',e1⟩:=I.base.there b o e hx
  exact free b o' (neC b o e hx) e1 (I.base.free b o e n hx)
 ·obtain ⟨o',e1⟩:=I.base.there b o e hx
  exact there b o' (neC b o e hx) e1
 ·obtain ⟨m1,e1⟩:=I.base.tbls b ps e
  obtain ⟨m2,e2⟩:=tbls b _ e1
  exact ⟨m1++m2,by rw [e2,Array.append_assoc]⟩
 ·obtain ⟨m,hn,hl⟩:=I.loc
  refine ⟨m,ns m hn,fun i x v e1 e2 e3=>?_⟩
  obtain ⟨u,r,l⟩:=hl i x v e1 e2 e3
  refine ⟨u,r,?_⟩
  rcases l with l | ⟨k,c,e,z⟩
  ·exact .inl l
  ·exact .inr ⟨k,c,e,cellK x c e _ z⟩
 ·obtain ⟨v,z⟩:=I.cell x c e
  exact ⟨v,cellK x c e v z⟩
 ·obtain ⟨m,⟨o,_,_,ho,_⟩,_⟩:=I.loc
  exact free _ o (fun z=>(hch _ z).2.1 rfl) ho I.free
 ·obtain ⟨v,o,ho,hd⟩:=I.cell x c e
  exact free c o (fun z=>(hch c z).2.2.1 x c e rfl) ho (I.freeC x c e)
 ·obtain ⟨e,n,ne,nf,d⟩:=I.pin p hp
  have nch:p.1∉ch:=fun z=>(hch p.1 z).2.2.2 p hp rfl
  exact ⟨keep p.1 p.2 ne nf nch e n,free p.1 p.2 nch e n,ne,nf,d⟩
theorem Inv.un {t':Nat} (I:Inv X pins σ H s) (u:Un X.fs [] H H' s.heap h') (hok:HOk X.prog X.w H' h'):Inv X pins σ H' { s with heap:=h',toks:=t' }:=by
 obtain ⟨m,⟨o,es,ep,ho,r⟩,_⟩:=id I.loc
 obtain ⟨sl,hL⟩:=u.any ho I.free (by simp)
 exact I.step (g':=s.gens) (d':=s.drawn) (ch:=[]) (fun _ z=>nomatch z) (fun b o _ hb _ e n=>u.keep b o e n hb (by simp)) (fun b o _ hb _ e n=>u.slot b o e n hb (by simp)) (fun b o _ e n=>u.free b o e n (by simp)) (fun b o _ e=>u.there b o e (by simp)) u.tups u.frzs u.tbls (fun m' hm=>by
  obtain ⟨o',es',ep',ho',r'⟩:=hm
  rw [ho] at ho'; cases ho'
  exact ⟨_,es',ep',hL,r'⟩) hok I.bare
theorem Inv.call {g':Array GenState} {t':Nat} {d':Drawn} {ch:List Addr} (I:Inv X pins σ H s) (u:Un (frs X.stack) ch H H' s.heap h') (hok:HOk X.prog X.w H' h') (hg:AllBare g')
  (hch:∀ b∈ch,(b∈X.ex∨X.s₀.heap.objs.size<=b)/\b≠X.env.locals/\(∀ x c,X.env.cells.lookup x=some c->c≠b)/\∀ p∈X.pn++pins,p.1≠b) :
  Inv X pins σ H' { s with heap:=h',gens:=g',drawn:=d',toks:=t' }:=by
 obtain ⟨m,⟨o,es,ep,ho,r⟩,_⟩:=id I.loc
 obtain ⟨sl,hL⟩:=u.any ho I.free fun z=>(hch _ z).2.1 rfl
 exact I.step (ch:=ch) hch (fun b o hL hb hc e n=>u.keep b o e n (fun z=>(Qp.mp (I.stkSub b z)).elim hL hb) hc) (fun b o _ _ hc e n=>u.any e n hc) (fun b o hc e n=>u.free b o e n hc) (fun b o hc e=>u.there b o e hc) u.tups u.frzs u.tbls (fun m' hm=>by
  obtain ⟨o',es',ep',ho',r'⟩:=hm
  rw [ho] at ho'; cases ho'
  exact ⟨_,es',ep',hL,r'⟩) hok hg
theorem Inv.turned {t':Nat} {it:Addr} (I:Inv X pins σ H s) (k:∀ b o,b≠it->s.heap.get? b=some o->h'.get? b=some o) (hn:H it=none) (hL:it≠X.env.locals)
  (h1:it∈X.ex∨X.s₀.heap.objs.size<=it) (h2:∀ x c,X.env.cells.lookup x=some c->c≠it) (h3:∀ p∈X.pn++pins,p.1≠it):Inv X pins σ H { s with heap:=h',toks:=t' }:=by
 have nit:∀ b u,H b=some u->b≠it:=fun b u e z=>by rw [z,hn] at e; cases e
 refine I.step (g':=s.gens) (d':=s.drawn) (ch:=[it]) (fun b hb=>?_) (fun b o _ _ hc e _=>k b o (fun z=>hc (by simp [z])) e) (fun b o _ _ hc e _=>⟨o.slots,k b o (fun z=>hc (by simp [z])) e⟩) (fun _ _ _ _ n=>n)
  (fun b o hc e=>⟨o,k b o (fun z=>hc (by simp [z])) e⟩) (fun _ _ e=>e) (fun _ _ _ e=>e) (fun b ps e=>⟨#[],by rw [e]; simp⟩) (fun m hm=>?_) (fun b u e=>?_) I.bare
 ·have e:b=it:=by simpa using hb
  subst e
  exact ⟨h1,hL,h2,h3⟩
 ·obtain ⟨o,es,ep,ho,r⟩:=hm
  exact ⟨o,es,ep,k _ o (Ne.symm hL) ho,r⟩
 ·refine (I.hok b u e).stay (fun c v hc q=>k c v ?_ q) (fun _ q=>q) fun _ _ q=>q
  rcases hc with z | z
  ·rw [z]; exact nit b u e
  ·exact nit c _ z
theorem Inv.tok (I:Inv X pins σ H s) (t:Nat):Inv X pins σ H { s with toks:=t }:=I.un (h':=s.heap) (t':=t) Un.refl I.hok
theorem Inv.kept {t':Nat} (I:Inv X pins σ H s) (k:∀ b u,s.heap.get? b=some u->h'.get? b=some u):Inv X pins σ H { s with heap:=h',toks:=t' }:=I.un (Un.kept k) (I.hok.kept k)
theorem Inv.laid {a:Addr} {o:HO} {t':Nat} (I:Inv X pins σ H s) (k:∀ b u,s.heap.get? b=some u->h'.get? b=some u) (hp:s.heap.objs.size<=a) (new:bW X.prog X.w (upd H a o) h' a o) :
  Inv X pins σ (upd H a o) { s with heap:=h',toks:=t' }:=I.un (Un.laid k hp (I.hok.fresh hp)) (I.hok.laid k hp new)
theorem Inv.write {x e:Addr} {o:HO} {t':Nat} (I:Inv X pins σ H s) (mu:Mut (H x)) (he:e=x∨H e=some (.own x)) (k:∀ b u,b≠e->s.heap.get? b=some u->h'.get? b=some u) (heo:∃ u,h'.get? e=some u)
  (new:bW X.prog X.w (upd H x o) h' x o):Inv X pins σ (upd H x o) { s with heap:=h',toks:=t' }:=I.un (Un.write mu he k heo) (I.hok.write mu he k heo new)
theorem Inv.pins_of {pins':List (Addr×Obj)} (I:Inv X pins σ H s) (h:∀ p∈pins',s.heap.get? p.1=some p.2/\H p.1=none/\p.1≠X.env.locals/\p.1∉X.fs/\∀ v,p.2.data≠.cell v):Inv X pins' σ H s :=
 ⟨I.ok,I.os,I.bare,I.base,I.loc,I.cell,I.free,I.freeC,fun p hp=>(Jm.mp hp).elim (fun z=>I.pin p (Jf _ z)) (h p),I.hok,I.len⟩
theorem vL {N:List Str} (hN:N.Nodup) {i j:Nat} {x:Str} (a:N[i]?=some x) (b:N[j]?=some x):i=j:=by
 obtain ⟨h1,e1⟩:=Qd.mp a
 obtain ⟨h2,e2⟩:=Qd.mp b
 exact (List.getElem_inj hN).mp (e1.trans e2.symm)
theorem nJ {M:Model} {A:Around} {E:Value->Shared->Prop} {i:Nat} {x:Str} {v:V} {u:Value} {Q:Unit->Shared->Prop} (I:Inv X pins σ H s) (hN:X.N.Nodup) (hi:X.N[i]?=some x) (hx:Loc X.env.scope x) (r:bD v u)
  (h:∀ s',Inv X pins (σ.set i (some v)) H s'->(∃ a,Heap.SameBut a s.heap s'.heap/\(a=X.env.locals∨X.env.cells.lookup x=some a))->Q () s') (hf:X.fn x=true∨X.env.scope.names.lookup x=some .local:=by first | exact .inl rfl | exact .inr rfl | assumption):wpAny M A (storeName X.env x u) Q E s:=by
 obtain ⟨m,hn,hl⟩:=id I.loc
 have hcls:(X.env.scope.kind==.class || (X.env.scope.kind==.module && X.env.locals !=X.env.globals))=false:=by rw [I.ok.kind]; rfl
 have hiσ:i < σ.length:=by rw [I.len]; exact (Qd.mp hi).1
 have cne:=I.cne
 have tracked:∀ {a:Addr} {h':Heap},(∃ o,s.heap.get? a=some o/\H a=none)->Heap.SameBut a s.heap h'->HOk X.prog X.w H h':=fun {a h'} ha hs b ob e=>by
  obtain ⟨_,_,hfree⟩:=ha
  refine (I.hok b ob e).stay (fun c w' hc q=>(hs.2 c ?_).trans q) (fun _ q=>q) fun _ _ q=>q
  rintro rfl
  rcases hc with rfl | hc
  ·rw [hfree] at e; cases e
  ·rw [hfree] at hc; cases hc
 rcases hx with hk | hk
 ·refine wpAny_storeName_local hk hn (fun h' hn' hs=>?_) hcls
  obtain ⟨oL,_,_,hoL,_⟩:=id hn
  refine h _ ⟨I.ok,I.os,I.bare,⟨fun b o e n hb hx=>?_,fun b o e n hb hx=>?_,I.base.free,fun b o e hx=>?_,I.base.tups,I.base.frzs,I.base.tbls⟩,⟨_,hn',fun j y v' e1 e2 e3=>?_⟩,fun y c e=>?_,I.free,I.freeC,fun p hp=>?_,tracked ⟨oL,hoL,I.free⟩ hs,by simpa using I.len⟩ ⟨_,hs,.inl rfl⟩
  ·exact (hs.2 b (Jq (Qi (Qm e) I.ok.above))).trans (I.base.keep b o e n hb hx)
  ·obtain ⟨sl,e1⟩:=I.base.slot b o e n hb hx
   exact ⟨sl,(hs.2 b (Jq (Qi (Qm e) I.ok.above))).trans e1⟩
  ·obtain ⟨o',e1⟩:=I.base.there b o e hx
   exact ⟨o',(hs.2 b (Jq (Qi (Qm e) I.ok.above))).trans e1⟩
  ·by_cases hj:j=i
   ·subst hj
    rw [hi] at e1; cases e1
    rw [Wr hiσ] at e2
    cases e2
    exact ⟨u,r,.inl ⟨hk,by simp⟩⟩
   ·rw [Wy (Ne.symm hj)] at e2
    obtain ⟨u',r',q⟩:=hl j y v' e1 e2 e3
    refine ⟨u',r',?_⟩
    rcases q with ⟨k,e⟩ | ⟨k,c,e,z⟩
    ·refine .inl ⟨k,?_⟩
     have:y≠x:=fun e=>hj (vL hN e1 (e ▸ hi))
     simp [this,e]
    ·exact .inr ⟨k,c,e,z.sameBut hs (cne y c e)⟩
  ·obtain ⟨w',z⟩:=I.cell y c e
   exact ⟨w',z.sameBut hs (cne y c e)⟩
  ·obtain ⟨e,n,ne,nf,d⟩:=I.pin p hp
   exact ⟨(hs.2 p.1 ne).trans e,n,ne,nf,d⟩
 ·have hfn:X.fn x=true:=by
   rcases hf with z | z
   ·exact z
   ·rw [z] at hk; cases hk
  obtain ⟨c,hc⟩:=I.ok.has x (.inl hk)
  obtain ⟨w',z⟩:=I.cell x c hc
  refine wpAny_storeName_cell I.ok.kind hk hc z (fun h' hc' hs=>?_)
  obtain ⟨oc,hoc,hocd⟩:=id z
  refine h { s with heap:=h' } ⟨I.ok,I.os,I.bare,⟨fun b o e n hb hx=>?_,fun b o e n hb hx=>?_,I.base.free,fun b o e hx=>?_,I.base.tups,I.base.frzs,I.base.tbls⟩,⟨m,hn.sameBut hs (Ne.symm (cne x c hc)),fun j y v' e1 e2 e3=>?_⟩,fun y c' e=>?_,I.free,I.freeC,fun p hp=>?_,tracked ⟨oc,hoc,I.freeC x c hc⟩ hs,by simpa using I.len⟩ ⟨c,hs,.inr hc⟩
  ·exact (hs.2 b (Jq (Qi (Qm e) (I.ok.cab x c hfn hc)))).trans (I.base.keep b o e n hb hx)
  ·obtain ⟨sl,e1⟩:=I.base.slot b o e n hb hx
   exact ⟨sl,(hs.2 b (Jq (Qi (Qm e) (I.ok.cab x c hfn hc)))).trans e1⟩
  ·obtain ⟨o',e1⟩:=I.base.there b o e hx
   exact ⟨o',(hs.2 b (Jq (Qi (Qm e) (I.ok.cab x c hfn hc)))).trans e1⟩
  ·by_cases hj:j=i
   ·subst hj
    rw [hi] at e1; cases e1
    rw [Wr hiσ] at e2
    cases e2
    exact ⟨u,r,.inr ⟨.inl hk,c,hc,hc'⟩⟩
   ·rw [Wy (Ne.symm hj)] at e2
    obtain ⟨u',r',q⟩:=hl j y v' e1 e2 e3
    refine ⟨u',r',?_⟩
    rcases q with q | ⟨k,c',e,z'⟩
    ·exact .inl q
    ·refine .inr ⟨k,c',e,z'.sameBut hs ?_⟩
     rintro rfl
     exact hj (vL hN e1 (I.ok.inj _ _ _ e hc ▸ hi))
  ·by_cases hcc:c'=c
   ·subst hcc; exact ⟨_,hc'⟩
   ·obtain ⟨w2,z2⟩:=I.cell y c' e
    exact ⟨w2,z2.sameBut hs hcc⟩
  ·obtain ⟨e,n,ne,nf,d⟩:=I.pin p hp
   refine ⟨(hs.2 p.1 ?_).trans e,n,ne,nf,d⟩
   intro q
   rw [q,hoc] at e
   have q':oc=p.2:=Option.some.inj e
   exact d w' (by rw [<- q']; exact hocd)
theorem mK {M:Model} {A:Around} {E:Value->Shared->Prop} {i:Nat} {x:Str} {v:V} {u:Value} {Q:Unit->Shared->Prop} (I:Inv X pins σ H s) (hN:X.N.Nodup) (hi:X.N[i]?=some x) (hx:Loc X.env.scope x) (r:bD v u)
  (h:∀ s',Inv X pins (σ.set i (some v)) H s'->Q () s') (hf:X.fn x=true∨X.env.scope.names.lookup x=some .local:=by first | exact .inl rfl | exact .inr rfl | assumption):wpAny M A (storeName X.env x u) Q E s :=
 nJ I hN hi hx r (fun s' I' _=>h s' I') hf
theorem Inv.call' {s':Shared} {ch:List Addr} (I:Inv X pins σ H s) (ho:s'.os=s.os) (u:Un (frs X.stack) ch H H' s.heap s'.heap) (hok:HOk X.prog X.w H' s'.heap) (hg:AllBare s'.gens)
  (hch:∀ b∈ch,(b∈X.ex∨X.s₀.heap.objs.size<=b)/\b≠X.env.locals/\(∀ x c,X.env.cells.lookup x=some c->c≠b)/\∀ p∈X.pn++pins,p.1≠b):Inv X pins σ H' s':=by
 obtain ⟨h',g',d',t',o'⟩:=s'
 have e:o'=s.os:=ho
 subst e
 exact I.call (g':=g') (t':=t') (d':=d') u hok hg hch
end
abbrev XK:=Value->Option Addr->Hp->Prop
abbrev St:=List (Option V)
abbrev VK:=V->Hp->Prop
abbrev TE:=St->Hp->VK->Prop
abbrev TT:=St->Hp->(Bool->Hp->Prop)->Prop
abbrev TA:=St->Hp->(List V->Hp->Prop)->Prop
structure Ends where
 nx:St->Hp->Prop
 rt:VK
 bk:St->Hp->Prop:=fun _ _=>False
 ct:St->Hp->Prop:=fun _ _=>False
abbrev TS:=Ends->St->Hp->Prop
def EP (X:Cx) (pins:List (Addr×Obj)) (σ:St) (Q:VK) (u:Value) (s':Shared):Prop:=∃ v H',Inv X pins σ H' s'/\bD v u/\Q v H'
def TP (X:Cx) (pins:List (Addr×Obj)) (σ:St) (Q:Bool->Hp->Prop) (b:Bool) (s':Shared):Prop:=∃ H',Inv X pins σ H' s'/\Q b H'
def AP (X:Cx) (pins:List (Addr×Obj)) (σ:St) (Q:List V->Hp->Prop) (us:List Value) (s':Shared):Prop:=∃ vs H',Inv X pins σ H' s'/\bA vs us/\Q vs H'
def SP (X:Cx) (pins:List (Addr×Obj)) (D:Ends) (f:Flow) (s':Shared):Prop :=
 match f with
 | .next=>∃ σ' H',Inv X pins σ' H' s'/\D.nx σ' H'
 | .brk=>∃ σ' H',Inv X pins σ' H' s'/\D.bk σ' H'
 | .cont=>∃ σ' H',Inv X pins σ' H' s'/\D.ct σ' H'
 | .ret u=>∃ v σ' H',Inv X pins σ' H' s'/\bD v u/\D.rt v H'
def PE (X:Cx) (e:Expr) (t:TE):Prop :=
 ∀ (pins:List (Addr×Obj)) (s:Shared) (σ:St) (H:Hp) (Q:VK),Inv X pins σ H s->t σ H Q->wpAny (model X.prog X.w) X.A (eval e X.env) (EP X pins σ Q) X.xe s
def PT (X:Cx) (e:Expr) (t:TT):Prop :=
 ∀ (pins:List (Addr×Obj)) (s:Shared) (σ:St) (H:Hp) (Q:Bool->Hp->Prop),Inv X pins σ H s->t σ H Q->wpAny (model X.prog X.w) X.A (isTrue e X.env (eval e X.env)) (TP X pins σ Q) X.xe s
def PW (X:Cx) (e:Expr) (t:TT):Prop :=
 ∀ (whole:Sem Value) (pins:List (Addr×Obj)) (s:Shared) (σ:St) (H:Hp) (Q:Bool->Hp->Prop),Inv X pins σ H s->t σ H Q->wpAny (model X.prog X.w) X.A (isTrue e X.env whole) (TP X pins σ Q) X.xe s
theorem PW.pt {X:Cx} {e:Expr} {t:TT} (h:PW X e t):PT X e t:=h _
def PA (X:Cx) (es:List Expr) (t:TA):Prop :=
 ∀ (pos:Pos) (pins:List (Addr×Obj)) (s:Shared) (σ:St) (H:Hp) (Q:List V->Hp->Prop),Inv X pins σ H s->t σ H Q->wpAny (model X.prog X.w) X.A (spliced (backTo pos (starEach es X.env))) (AP X pins σ Q) X.xe s
def PS (X:Cx) (st:Stmt) (t:TS):Prop :=
 ∀ (pins:List (Addr×Obj)) (s:Shared) (σ:St) (H:Hp) (D:Ends),Inv X pins σ H s->t D σ H->wpAny (model X.prog X.w) X.A (exec st X.env) (SP X pins D) X.xe s
def PSs (X:Cx) (st:List Stmt) (t:TS):Prop :=
 ∀ (pins:List (Addr×Obj)) (s:Shared) (σ:St) (H:Hp) (D:Ends),Inv X pins σ H s->t D σ H->wpAny (model X.prog X.w) X.A (execs st X.env) (SP X pins D) X.xe s
theorem thn {α:Type} {t:Sem α} {Q Q':α->Shared->Prop} {M:Model} {A:Around} {E:Value->Shared->Prop} {s:Shared} (h:wpAny M A t Q E s) (hQ:∀ a s,Q a s->Q' a s):wpAny M A t Q' E s:=wpAny_mono h hQ fun _ _ x=>x
section
variable {X:Cx}
def aFp (i:Nat):TE:=fun σ H Q=>∃ v,σ[i]?=some (some v)/\Q v H
abbrev tC (v:V):TE:=fun _ H Q=>Q v H
theorem aEG {i:Nat} {x:Str} {pos:Pos} (hN:X.N[i]?=some x) (hv:Vis X.env.scope x) (hd:(x==("__debug__" : Str))=false:=by decide) (hcd:(x==("__classdict__" : Str))=false:=by decide):PE X (.Name x pos) (aFp i):=by
 intro pins s σ H Q I h
 obtain ⟨v,e,h⟩:=h
 obtain ⟨m,hn,hl⟩:=I.loc
 obtain ⟨u,r,l⟩:=hl i x v hN e hv
 have fin:EP X pins σ Q u s:=⟨v,H,I,r,h⟩
 rcases l with ⟨hk,hm⟩ | ⟨hk,c,hc,hcell⟩
 ·exact wpAny_Name (wpAny_loadName_local I.ok.kind hk hn hm fin) hd
 ·rcases hk with hk | hk
  ·exact wpAny_Name (wpAny_loadName_cell I.ok.kind hk hc hcell fin) hd
  ·exact wpAny_Name (wpAny_loadName_free I.ok.kind hk hc hcell fin hcd) hd
theorem aI {i j pos}:PE X (.Constant (.int i) j pos) (tC (.int i)):=fun _ _ _ H _ I h=>wpAny_Constant_int ⟨.int i,H,I.tok _,⟨_,rfl⟩,h⟩
theorem jI {b j pos}:PE X (.Constant (.bool b) j pos) (tC (.bl b)):=fun _ _ _ H _ I h=>Constant_bool ⟨.bl b,H,I,rfl,h⟩
theorem aEH {j pos}:PE X (.Constant .none j pos) (tC .non):=fun _ _ _ H _ I h=>Constant_none ⟨.non,H,I,rfl,h⟩
def Gl (X:Cx) (x:Str):Prop:=X.env.kindOf x=some .globalImplicit
theorem zJ {E:Value->Shared->Prop} {pins:List (Addr×Obj)} {s:Shared} {σ:St} {H:Hp} {x:Str} {u:Value} {pos:Pos} {Q:Value->Shared->Prop} (I:Inv X pins σ H s) (hg:Gl X x) (hm:X.mg x=some u) (h:Q u s)
  (hd:(x==("__debug__" : Str))=false:=by decide):wpAny (model X.prog X.w) X.A (eval (.Name x pos) X.env) Q E s :=
 Calls.Name_function_global I.ok.kind hg (Calls.loadGlobal_global (by rw [I.ok.glob]; exact I.mod.glob.keeps I.bk) hm h) hd
theorem kF {E:Value->Shared->Prop} {pins:List (Addr×Obj)} {s:Shared} {σ:St} {H:Hp} {x:Str} {u:Value} {pos:Pos} {Q:Value->Shared->Prop} (I:Inv X pins σ H s) (hg:Gl X x) (hm:X.mg x=none) (hv:bootBuiltins x=some u) (h:Q u s)
  (hn:x ≠ "__name__" := by decide) (hd:(x==("__debug__" : Str))=false:=by decide):wpAny (model X.prog X.w) X.A (eval (.Name x pos) X.env) Q E s:=by
 obtain ⟨mb,h1,h2⟩:=I.mod.blt
 exact Calls.Name_function_global I.ok.kind hg (Calls.loadGlobal_builtin (by rw [I.ok.glob]; exact I.mod.glob.keeps I.bk) hm (by rw [I.ok.blt]; exact h1.keeps I.bk) ((h2 x hn).trans hv) h) hd
theorem lH {x:Str} {v:V} {u:Value} {pos:Pos} (hg:Gl X x) (hm:X.mg x=some u) (r:bD v u) (hd:(x==("__debug__" : Str))=false:=by decide):PE X (.Name x pos) (tC v) :=
 fun _ _ _ H _ I h=>zJ I hg hm ⟨v,H,I,r,h⟩ hd
theorem iQ {x:Str} {v:V} {u:Value} {pos:Pos} (hg:Gl X x) (hm:X.mg x=none) (hv:bootBuiltins x=some u) (r:bD v u) (hn:x ≠ "__name__" := by decide) (hd:(x==("__debug__" : Str))=false:=by decide):PE X (.Name x pos) (tC v) :=
 fun _ _ _ H _ I h=>kF I hg hm hv ⟨v,H,I,r,h⟩ hn hd
variable {a b:Expr} {ta tb:TE} {pos:Pos}
def PC (X:Cx) (op:CmpOp) (a b:Expr) (t:TE):Prop :=
 ∀ (pins:List (Addr×Obj)) (s:Shared) (σ:St) (H:Hp) (Q:VK),Inv X pins σ H s->t σ H Q ->
  wpAny (model X.prog X.w) X.A (eval a X.env) (fun v s₁=>wpAny (model X.prog X.w) X.A (eval b X.env) (fun u s₂=>wpAny (model X.prog X.w) X.A (compareOp op v u) (EP X pins σ Q) X.xe s₂) X.xe s₁) X.xe s
theorem aBs (b:Expr) {op:CmpOp} (h:op≠.In) (h2:op≠.NotIn):behindInMarks op b=false:=by
 have e1:(op==CmpOp.In)=false:=by cases op <;> first | rfl | exact absurd rfl h
 have e2:(op==CmpOp.NotIn)=false:=by cases op <;> first | rfl | exact absurd rfl h2
 cases b <;> simp [behindInMarks,e1,e2]
def aFq (ta:TE):TE:=fun σ H Q=>ta σ H fun x H1=>Q (.bl (!decide (x=.non))) H1
theorem bD.none_iff {x:V} {v:Value} (r:bD x v):(v==Value.none)=decide (x=.non):=by
 cases x with
 | non=>cases r; rfl
 | bl _=>cases r; rfl
 | int _=>obtain ⟨t,rfl⟩:=r; rfl
 | str _=>obtain ⟨t,rfl⟩:=r; rfl
 | byt _=>obtain ⟨t,rfl⟩:=r; rfl
 | flt _=>obtain ⟨t,rfl⟩:=r; rfl
 | ref _=>cases r; rfl
 | ty _=>cases r; rfl
theorem aC4 {j pos'} (ha:PE X a ta):PC X .IsNot a (.Constant .none j pos') (aFq ta):=by
 intro pins s σ H Q I h
 refine thn (ha pins s σ H _ I h) fun v s1 hx9=>?_
 obtain ⟨x,H1,I1,r1,q1⟩:=hx9
 exact Constant_none (isnot_none_gen ⟨.bl _,H1,I1,by rw [r1.none_iff]; rfl,q1⟩)
def tB (t:TE):TT:=fun σ H Q=>t σ H fun x H1=>∃ c,x=.bl c/\Q c H1
theorem aBt {op:CmpOp} {t:TE} (h:PC X op a b t) (h1:behindInMarks op b=false:=by first | exact aBs _ (by decide) (by decide) | rfl):PT X (.Compare a [op] [b] pos) (tB t):=by
 intro pins s σ H Q I hw
 refine wpAny_isTrue_Compare1 (thn (h pins s σ H _ I hw) fun v s1 h1=>thn h1 fun u s2 h2=>thn h2 fun c s3 hx9=>?_) h1
 obtain ⟨x,H1,I1,r1,q1⟩:=hx9
 obtain ⟨d,rfl,q⟩:=q1
 cases r1
 exact wpAny_truthy_bool ⟨H1,I1,q⟩
theorem fZ {e:Expr} {t:TE} (h:PE X e t) (he:∀ whole,isTrue e X.env whole=(do let v<-whole; standAt e.pos; holding [v] (truthy v)):=by intro _; rfl):PT X e (tB t):=by
 intro pins s σ H Q I hw
 refine isTrue_plain (thn (h pins s σ H _ I hw) fun v s1 hx9=>?_) (he _)
 obtain ⟨x,H1,I1,r1,q1⟩:=hx9
 obtain ⟨d,rfl,q⟩:=q1
 cases r1
 exact wpAny_truthy_bool ⟨H1,I1,q⟩
variable {tA tB':TT} {iP:List Expr}
def aGe (t u:TT):TT:=fun σ H Q=>t σ H fun c H1=>if c=true then u σ H1 Q else Q false H1
def tOr (t u:TT):TT:=fun σ H Q=>t σ H fun c H1=>if c=true then Q true H1 else u σ H1 Q
def aGf (t:TT):TT:=fun σ H Q=>t σ H fun c H1=>Q (!c) H1
theorem aC5 (ha:PT X a tA):PW X (.BoolOp .And [a] pos) tA:=by
 intro wh pins s σ H Q I h
 refine isTrue_and (thn (ha pins s σ H Q I h) fun c s1 e=>?_)
 cases c with
 | true=>exact isTrue_and_nil e
 | false=>exact e
theorem mB (ha:PT X a tA):PW X (.BoolOp .Or [a] pos) tA:=by
 intro wh pins s σ H Q I h
 refine isTrue_or (thn (ha pins s σ H Q I h) fun c s1 e=>?_)
 cases c with
 | false=>exact isTrue_or_nil e
 | true=>exact e
theorem aEI (ha:PT X a tA) (hb:PW X (.BoolOp .And (b::iP) pos) tB'):PW X (.BoolOp .And (a::b::iP) pos) (aGe tA tB'):=by
 intro wh pins s σ H Q I h
 refine isTrue_and (thn (ha pins s σ H _ I h) fun c s1 hx9=>?_)
 obtain ⟨H1,I1,q1⟩:=hx9
 cases c with
 | true=>exact hb wh pins s1 σ H1 Q I1 q1
 | false=>exact ⟨H1,I1,q1⟩
theorem oI (ha:PT X a tA) (hb:PW X (.BoolOp .Or (b::iP) pos) tB'):PW X (.BoolOp .Or (a::b::iP) pos) (tOr tA tB'):=by
 intro wh pins s σ H Q I h
 refine isTrue_or (thn (ha pins s σ H _ I h) fun c s1 hx9=>?_)
 obtain ⟨H1,I1,q1⟩:=hx9
 cases c with
 | true=>exact ⟨H1,I1,q1⟩
 | false=>exact hb wh pins s1 σ H1 Q I1 q1
theorem gX (ha:PT X a tA):PT X (.UnaryOp .Not a pos) (aGf tA):=by
 intro pins s σ H Q I h
 exact isTrue_not (ha pins s σ H (fun c H1=>Q (!c) H1) I h)
def aFr (ta tb:TE):TE:=fun σ H Q=>ta σ H fun x H1=>∃ c,x=.bl c/\if c=true then tb σ H1 Q else Q (.bl false) H1
def aFs (ta:TE):TE:=fun σ H Q=>ta σ H fun x H1=>∃ c,x=.bl c/\Q (.bl (!c)) H1
theorem pN {op} {t:TE} (h:PE X a t):PE X (.BoolOp op [a] pos) t:=fun pins s σ H Q I hw=>BoolOp_one (h pins s σ H Q I hw)
theorem pO (ha:PE X a ta) (hb:PE X (.BoolOp .And (b::iP) pos) tb):PE X (.BoolOp .And (a::b::iP) pos) (aFr ta tb):=by
 intro pins s σ H Q I h
 refine BoolOp_and (thn (ha pins s σ H _ I h) fun v s1 hx9=>?_)
 obtain ⟨x,H1,I1,r1,q1⟩:=hx9
 obtain ⟨c,rfl,q1⟩:=q1
 cases r1
 refine wpAny_truthy_bool ?_
 cases c with
 | true=>exact hb pins s1 σ H1 Q I1 q1
 | false=>exact ⟨.bl false,H1,I1,rfl,q1⟩
theorem xR (ha:PE X a ta):PE X (.UnaryOp .Not a pos) (aFs ta):=by
 intro pins s σ H Q I h
 refine UnaryOp_ (thn (ha pins s σ H _ I h) fun v s1 hx9=>?_)
 obtain ⟨x,H1,I1,r1,q1⟩:=hx9
 obtain ⟨c,rfl,q1⟩:=q1
 cases r1
 exact not_of (wpAny_truthy_bool ⟨.bl (!c),H1,I1,rfl,q1⟩)
end
def SqL (K:PySem.W.Frag) (H:Hp) (a:Addr) (xs:List V):Prop :=
 Rd H a (.lst xs) ∨
  ∃ (o:Obj) (its:Array Value) (n:Nat),K.lookup a=some o/\o.cls=.type "list" /\ o.dict=none/\o.data=.seq its n/\its.size<=sizeLine/\bA xs its.toList
def SqT (K:PySem.W.Frag) (H:Hp) (a:Addr) (xs:List V):Prop :=
 Rd H a (.tup xs) ∨
  ∃ (o:Obj) (its:Array Value) (n:Nat),K.lookup a=some o/\o.cls=.type "tuple" /\ o.dict=none/\o.data=.seq its n/\its.size<=sizeLine/\bA xs its.toList
def aGg:Value->Option V
 | .none=>some .non
 | .bool b=>some (.bl b)
 | .int i _=>some (.int i)
 | .str x _=>some (.str x)
 | .bytes b _=>some (.byt b)
 | .float b _=>some (.flt b)
 | .ref a=>some (.ref a)
 | .type n=>some (.ty n)
 | _=>none
theorem bD.abs {x:V} {u:Value} (r:bD x u):aGg u=some x:=by
 cases x with
 | non=>cases r; rfl
 | bl _=>cases r; rfl
 | int _=>obtain ⟨t,rfl⟩:=r; rfl
 | str _=>obtain ⟨t,rfl⟩:=r; rfl
 | byt _=>obtain ⟨t,rfl⟩:=r; rfl
 | flt _=>obtain ⟨t,rfl⟩:=r; rfl
 | ref _=>cases r; rfl
 | ty _=>cases r; rfl
theorem bD.inj {x y:V} {u:Value} (r:bD x u) (q:bD y u):x=y:=Option.some.inj (r.abs.symm.trans q.abs)
theorem bA.inj:∀ {xs ys:List V} {us:List Value},bA xs us->bA ys us->xs=ys
 := by
 intro xs ys us h
 induction h generalizing ys with
 | nil=>intro q; cases q; rfl
 | cons r t ih=>intro q; cases q with | cons r' t'=>rw [r.inj r',ih t']
section
variable {X:Cx} {pins:List (Addr×Obj)} {σ:St} {H:Hp} {s:Shared} {a:Addr} {xs ys:List V}
theorem SqL.of {K:PySem.W.Frag} (h:H a=some (.lst xs)):SqL K H a xs:=.inl (.inl h)
theorem SqT.of {K:PySem.W.Frag} (h:H a=some (.tup xs)):SqT K H a xs:=.inl (.inl h)
theorem Inv.list (I:Inv X pins σ H s) (h:SqL X.K H a xs):∃ its:List Value,bA xs its/\PlainL s.heap a its.toArray/\xs.length<=sizeLine:=by
 rcases h with h | ⟨o,its,n,hk,hc,hd,hs,hz,r⟩
 ·obtain ⟨z,its,n,r,e⟩:=h.ok I.hok
  exact ⟨its,r,⟨_,n,e,rfl,rfl,rfl⟩,z⟩
 ·refine ⟨its.toList,r,⟨o,n,I.kIn a o hk,hc,hd,by simpa using hs⟩,?_⟩
  have e:=r.length
  simp only [Array.length_toList] at e
  omega
theorem Inv.tuple (I:Inv X pins σ H s) (h:SqT X.K H a xs):∃ its:List Value,bA xs its/\IsTup s.heap a its.toArray/\xs.length<=sizeLine:=by
 rcases h with h | ⟨o,its,n,hk,hc,_,hs,hz,r⟩
 ·obtain ⟨z,its,n,r,p⟩:=h.ok I.hok
  exact ⟨its,r,⟨_,p,rfl,n,rfl⟩,z⟩
 ·refine ⟨its.toList,r,⟨o,I.kIn a o hk,hc,n,by simpa using hs⟩,?_⟩
  have e:=r.length
  simp only [Array.length_toList] at e
  omega
theorem Inv.list_inj (I:Inv X pins σ H s) (h:SqL X.K H a xs) (h':SqL X.K H a ys):xs=ys:=by
 obtain ⟨its,r,⟨o,n,e,_,_,d⟩,_⟩:=I.list h
 obtain ⟨its',r',⟨o',n',e',_,_,d'⟩,_⟩:=I.list h'
 rw [e] at e'; cases e'
 rw [d] at d'
 injection d' with d1 _
 have:its=its':=by simpa using congrArg Array.toList d1
 subst this
 exact r.inj r'
theorem Inv.tuple_inj (I:Inv X pins σ H s) (h:SqT X.K H a xs) (h':SqT X.K H a ys):xs=ys:=by
 obtain ⟨its,r,⟨o,e,_,n,d⟩,_⟩:=I.tuple h
 obtain ⟨its',r',⟨o',e',_,n',d'⟩,_⟩:=I.tuple h'
 rw [e] at e'; cases e'
 rw [d] at d'
 injection d' with d1 _
 have:its=its':=by simpa using congrArg Array.toList d1
 subst this
 exact r.inj r'
end
abbrev Cx.wish (X:Cx) (E:Value->Shared->Prop):Cx:={ X with xe:=E }
abbrev Cx.nox (X:Cx):Cx:=X.wish fun _ _=>False
theorem Cx.Ok.wish {X:Cx} (ok:X.Ok) (E:Value->Shared->Prop):(X.wish E).Ok :=
 ⟨ok.mod,ok.kind,ok.glob,ok.blt,ok.above,ok.inj,ok.has,ok.cab,ok.hd,ok.frames,ok.stk,ok.exf,ok.bs,ok.bsz,ok.noex,ok.exfs,ok.funs,ok.frf⟩
theorem Cx.Ok.unwish {X:Cx} {E:Value->Shared->Prop} (ok:(X.wish E).Ok):X.Ok :=
 ⟨ok.mod,ok.kind,ok.glob,ok.blt,ok.above,ok.inj,ok.has,ok.cab,ok.hd,ok.frames,ok.stk,ok.exf,ok.bs,ok.bsz,ok.noex,ok.exfs,ok.funs,ok.frf⟩
section
variable {X:Cx} {pins:List (Addr×Obj)} {σ:St} {H:Hp} {s:Shared} {E:Value->Shared->Prop}
theorem Inv.wish (I:Inv X pins σ H s) (E:Value->Shared->Prop):Inv (X.wish E) pins σ H s:=⟨I.ok.wish E,I.os,I.bare,I.base,I.loc,I.cell,I.free,I.freeC,I.pin,I.hok,I.len⟩
theorem Inv.unwish (I:Inv (X.wish E) pins σ H s):Inv X pins σ H s:=⟨I.ok.unwish,I.os,I.bare,I.base,I.loc,I.cell,I.free,I.freeC,I.pin,I.hok,I.len⟩
theorem SP.unwish {D:Ends} {f:Flow} {s':Shared} (h:SP (X.wish E) pins D f s'):SP X pins D f s':=by
 cases f with
 | next=>obtain ⟨σ',H',I,q⟩:=h; exact ⟨σ',H',I.unwish,q⟩
 | brk=>obtain ⟨σ',H',I,q⟩:=h; exact ⟨σ',H',I.unwish,q⟩
 | cont=>obtain ⟨σ',H',I,q⟩:=h; exact ⟨σ',H',I.unwish,q⟩
 | ret u=>obtain ⟨v,σ',H',I,r,q⟩:=h; exact ⟨v,σ',H',I.unwish,r,q⟩
theorem PE.nox {e:Expr} {t:TE} (h:PE X.nox e t):PE X e t:=fun pins s σ H Q I hw =>
 wpAny_mono (h pins s σ H Q (I.wish _) hw) (fun _ _ ⟨v,H',I',r,q⟩=>⟨v,H',I'.unwish,r,q⟩) fun _ _ z=>False.elim z
theorem PT.nox {e:Expr} {t:TT} (h:PT X.nox e t):PT X e t:=fun pins s σ H Q I hw =>
 wpAny_mono (h pins s σ H Q (I.wish _) hw) (fun _ _ ⟨H',I',q⟩=>⟨H',I'.unwish,q⟩) fun _ _ z=>False.elim z
theorem PSs.nox {st:List Stmt} {t:TS} (h:PSs X.nox st t):PSs X st t:=fun pins s σ H D I hw =>
 wpAny_mono (h pins s σ H D (I.wish _) hw) (fun _ _ q=>q.unwish) fun _ _ z=>False.elim z
end
section
variable {X:Cx} {st:Stmt} {iP:List Stmt} {t u:TS} {e:Expr} {te:TE} {pos:Pos}
def aFt:TS:=fun D σ H=>D.nx σ H
def aGh (t u:TS):TS:=fun D σ H=>t { D with nx:=u D } σ H
theorem bX:PSs X [] aFt:=fun _ _ σ H _ I h=>wpAny_execs_nil ⟨σ,H,I,h⟩
theorem aF (h1:PS X st t) (h2:PSs X iP u):PSs X (st::iP) (aGh t u):=by
 intro pins s σ H D I h
 refine wpAny_execs_cons (thn (h1 pins s σ H { D with nx:=u D } I h) fun f s1 q=>?_)
 cases f with
 | next =>
  obtain ⟨σ',H',I',q⟩:=q
  exact h2 pins s1 σ' H' D I' q
 | ret v=>exact q
 | brk=>exact q
 | cont=>exact q
theorem aJ (h1:PS X st t):PSs X [st] t:=by
 intro pins s σ H D I h
 refine wpAny_execs_cons (thn (h1 pins s σ H D I h) fun f s1 q=>?_)
 cases f with
 | next=>exact wpAny_execs_nil q
 | ret v=>exact q
 | brk=>exact q
 | cont=>exact q
theorem Inv.quiet {pins:List (Addr×Obj)} {σ:St} {H:Hp} {s:Shared} (I:Inv X pins σ H s):interactive X.env=false:=by simp [interactive,I.ok.kind]
def aFu (te:TE):TS:=fun D σ H=>te σ H fun _ H1=>D.nx σ H1
theorem lI (he:PE X e te) (hs:swapsWith e none pos.line X.env=pure false:=by rfl):PS X (.Expr e pos) (aFu te):=by
 intro pins s σ H D I h
 refine wpAny_Expr_any (thn (he pins s σ H _ I h) fun v s1 hx9=>?_) I.quiet hs
 obtain ⟨x,H1,I1,r1,q1⟩:=hx9
 exact ⟨σ,H1,I1,q1⟩
def aGi (te:TE):TS:=fun D σ H=>te σ H D.rt
theorem aY (he:PE X e te):PS X (.Return (some e) pos) (aGi te):=by
 intro pins s σ H D I h
 refine wpAny_Return_some (thn (he pins s σ H _ I h) fun v s1 hx9=>?_)
 obtain ⟨x,H1,I1,r1,q1⟩:=hx9
 exact ⟨x,σ,H1,I1,r1,q1⟩
def aGj (c:TT) (t u:TS):TS:=fun D σ H=>c σ H fun b H1=>if b=true then t D σ H1 else u D σ H1
theorem fF {c:Expr} {a b:List Stmt} {tc:TT} (hc:PT X c tc) (ha:PSs X a t) (hb:PSs X b u):PS X (.If c a b pos) (aGj tc t u):=by
 intro pins s σ H D I h
 refine wpAny_If (thn (hc pins s σ H _ I h) fun d s1 hx9=>?_)
 obtain ⟨H1,I1,q1⟩:=hx9
 cases d with
 | true=>exact ha pins s1 σ H1 D I1 q1
 | false=>exact hb pins s1 σ H1 D I1 q1
def aEJ:TS:=fun _ _ _=>False
theorem sX {sts:List Stmt}:PSs X sts aEJ:=fun _ _ _ _ _ _ h=>h.elim
end
abbrev TG:=V->St->Hp->(St->Hp->Prop)->Prop
abbrev TGs:=List V->St->Hp->(St->Hp->Prop)->Prop
def PG (X:Cx) (target:Expr) (t:TG):Prop :=
 ∀ (pins:List (Addr×Obj)) (s:Shared) (σ:St) (H:Hp) (v:V) (u:Value) (Q:St->Hp->Prop),Inv X pins σ H s->bD v u->t v σ H Q ->
  wpAny (model X.prog X.w) X.A (assign target X.env u) (fun _ s'=>∃ σ' H',Inv X pins σ' H' s'/\Q σ' H') X.xe s
def PGs (X:Cx) (ts:List Expr) (t:TGs):Prop :=
 ∀ (pins:List (Addr×Obj)) (s:Shared) (σ:St) (H:Hp) (vs:List V) (us:List Value) (Q:St->Hp->Prop),Inv X pins σ H s->bA vs us->t vs σ H Q ->
  wpAny (model X.prog X.w) X.A (assignInOrder ((assignEach ts X.env).map (·.2)) us) (fun _ s'=>∃ σ' H',Inv X pins σ' H' s'/\Q σ' H') X.xe s
abbrev aBu:=V->V->V->Hp->(Hp->Prop)->Prop
def aEK (X:Cx) (t:aBu):Prop :=
 ∀ (pins:List (Addr×Obj)) (s:Shared) (σ:St) (H:Hp) (o i v:V) (ov iv u:Value) (Q:Hp->Prop),Inv X pins σ H s->bD o ov->bD i iv->bD v u->t o i v H Q ->
  wpAny (model X.prog X.w) X.A (setItem ov iv u) (fun _ s'=>∃ H',Inv X pins σ H' s'/\Q H') X.xe s
abbrev TIp:=V->V->Hp->VK->Prop
def PIp (X:Cx) (op:Operator) (t:TIp):Prop :=
 ∀ (pins:List (Addr×Obj)) (s:Shared) (σ:St) (H:Hp) (x y:V) (v u:Value) (Q:VK),Inv X pins σ H s->bD x v->bD y u->t x y H Q ->
  wpAny (model X.prog X.w) X.A (inplaceOp op v u) (EP X pins σ Q) X.xe s
section
variable {X:Cx} {pos:Pos}
def bN (i:Nat):TG:=fun v σ H Q=>Q (σ.set i (some v)) H
theorem aL {i:Nat} {x:Str} (hN:X.N.Nodup) (hi:X.N[i]?=some x) (hx:Loc X.env.scope x) (hf:X.fn x=true∨X.env.scope.names.lookup x=some .local:=by first | exact .inl rfl | exact .inr rfl | assumption):PG X (.Name x pos) (bN i):=by
 intro pins s σ H v u Q I r h
 exact wpAny_assign_Name (mK I hN hi hx r (fun s' I'=>⟨_,H,I',h⟩) hf)
def aGk:TGs:=fun vs σ H Q=>vs = []/\Q σ H
def aFv (t:TG) (u:TGs):TGs:=fun vs σ H Q=>∃ v r,vs=v::r/\t v σ H fun σ' H'=>u r σ' H' Q
theorem dF:PGs X [] aGk:=by
 intro pins s σ H vs us Q I r h
 obtain ⟨e,h⟩:=h
 subst e
 cases r
 exact assignInOrder_nil ⟨σ,H,I,h⟩
theorem aW {e:Expr} {es:List Expr} {t:TG} {u:TGs} (h1:PG X e t) (h2:PGs X es u)
  (hs:(assignEach (e::es) X.env).map (·.2)=assign e X.env::(assignEach es X.env).map (·.2):=by rfl):PGs X (e::es) (aFv t u):=by
 intro pins s σ H vs us Q I r h
 obtain ⟨v,vr,e1,h⟩:=h
 subst e1
 cases r with
 | cons r rr =>
  rw [hs]
  refine assignInOrder_cons (thn (h1 pins s σ H _ _ _ I r h) fun _ s1 hx9=>?_)
  obtain ⟨σ1,H1,I1,q1⟩:=hx9
  exact h2 pins s1 σ1 H1 _ _ Q I1 rr q1
def aFw (K:PySem.W.Frag) (n:Nat) (t:TGs):TG:=fun v σ H Q=>∃ a xs,v=.ref a/\SqT K H a xs/\xs.length=n/\t xs σ H Q
theorem iX {es:List Expr} {k:Nat} {t:TGs} {n:Nat} (hc:X.calm=true) (h:PGs X es t)
  (hn:(assignEach es X.env).length=n:=by rfl) (hst:(assignEach es X.env).findIdx? (·.1)=none:=by rfl):PG X (.Tuple es k pos) (aFw X.K n t):=by
 intro pins s σ H v u Q I r hw
 obtain ⟨a,xs,e1,hq,hl,hw⟩:=hw
 subst e1
 cases r
 obtain ⟨its,rv,ht,hz⟩:=I.tuple hq
 refine assign_Tuple_tuple (I.ok.hd hc) ht (by simp [hn,<- hl,rv.length]) hst fun h' hx=>?_
 have I1:Inv X pins σ H { s with heap:=h' }:=I.kept (t':=s.toks) fun b o e=>hx b o (Jq (Qm e)) e
 exact h pins _ σ H xs _ Q I1 (by simpa using rv) hw
def aGl (to ti:TE) (t:aBu):TG:=fun v σ H Q=>to σ H fun o H1=>ti σ H1 fun i H2=>t o i v H2 fun H3=>Q σ H3
theorem xS {o i:Expr} {to ti:TE} {t:aBu} (ho:PE X o to) (hi:PE X i ti) (hs:aEK X t)
  (ha:∀ v,assign (.Subscript o i pos) X.env v=(do
   let ov<-holding [v] (eval o X.env)
   let iv<-holding [v,ov] (eval i X.env)
   standAt pos
   holding [v,ov,iv] (setItem ov iv v)
   release [v,ov,iv] []):=by intro _; rfl):PG X (.Subscript o i pos) (aGl to ti t):=by
 intro pins s σ H v u Q I r h
 rw [ha]
 refine wpAny_bind (wpAny_holding (thn (ho pins s σ H _ I h) fun ov s1 hx9=>?_))
 obtain ⟨x,H1,I1,r1,q1⟩:=hx9
 refine wpAny_bind (wpAny_holding (thn (hi pins s1 σ H1 _ I1 q1) fun iv s2 hx9=>?_))
 obtain ⟨y,H2,I2,r2,q2⟩:=hx9
 refine wpAny_bind (wpAny_standAt (wpAny_bind (wpAny_holding (thn (hs pins s2 σ H2 x y v ov iv u _ I2 r1 r2 r q2) fun _ s3 hx9=>?_))))
 obtain ⟨H3,I3,q3⟩:=hx9
 exact wpAny_release ⟨σ,H3,I3,q3⟩
def aC6 (te:TE) (g:TG):TS:=fun D σ H=>te σ H fun x H1=>g x σ H1 D.nx
theorem kW {tg e:Expr} {te:TE} {g:TG} (he:PE X e te) (hg:PG X tg g) (hs:swapsWithSole [tg] e pos.line X.env=pure false:=by rfl) (hw:swappedStores [tg] e X.env=pure none:=by rfl)
  (h1:(assignEach [tg] X.env).map (·.2) = [assign tg X.env]:=by rfl):PS X (.Assign [tg] e pos) (aC6 te g):=by
 intro pins s σ H D I h
 refine wpAny_Assign_stores (thn (he pins s σ H _ I h) fun v s1 hx9=>?_) hs hw
 obtain ⟨x,H1,I1,r1,q1⟩:=hx9
 rw [h1]
 exact thn (hg pins s1 σ H1 x v _ I1 r1 q1) fun _ s2 q=>q
theorem aT {i:Nat} {x:Str} {e:Expr} {te:TE} {pos':Pos} (hN:X.N.Nodup) (hi:X.N[i]?=some x) (hx:Loc X.env.scope x) (he:PE X e te) (hs:swapsWith e (some (.Name x pos')) pos.line X.env=pure false:=by rfl) (hf:X.fn x=true∨X.env.scope.names.lookup x=some .local:=by first | exact .inl rfl | exact .inr rfl | assumption) :
  PS X (.Assign [.Name x pos'] e pos) (aC6 te (bN i)):=by
 intro pins s σ H D I h
 refine wpAny_Assign_Name (thn (he pins s σ H _ I h) fun v s1 hx9=>?_) hs
 obtain ⟨y,H1,I1,r1,q1⟩:=hx9
 exact mK I1 hN hi hx r1 (fun s2 I2=>⟨_,H1,I2,q1⟩) hf
def aGm (i j:Nat) (ta:TA):TS:=fun D σ H=>ta σ H fun vs H1=>∃ v w,vs = [v,w]/\D.nx ((σ.set i (some v)).set j (some w)) H1
theorem aBv {i j:Nat} {x y:Str} {a b:Expr} {ta:TA} {px py pt:Pos} {kt k2 pt2} (hc:X.calm=true) (hN:X.N.Nodup) (hi:X.N[i]?=some x) (hj:X.N[j]?=some y) (hij:i≠j)
  (hx:X.env.scope.names.lookup x=some .local) (hy:X.env.scope.names.lookup y=some .local) (ha:PA X [a,b] ta)
  (hw:swappedStores [.Tuple [.Name x px,.Name y py] kt pt] (.Tuple [a,b] k2 pt2) X.env=pure (some [x,y]))
  (hs:swapsWithSole [.Tuple [.Name x px,.Name y py] kt pt] (.Tuple [a,b] k2 pt2) pos.line X.env=pure false:=by rfl) :
  PS X (.Assign [.Tuple [.Name x px,.Name y py] kt pt] (.Tuple [a,b] k2 pt2) pos) (aGm i j ta):=by
 intro pins s σ H D I h
 rw [exec_Assign_arm]
 refine wpAny_bind (wpAny_standAt ?_)
 rw [hs]
 refine wpAny_bind (wpAny_pure ?_)
 rw [if_neg (by decide)]
 refine wpAny_bind (Tuple_ (thn (ha _ pins s σ H _ I h) fun us s1 hx9=>?_))
 obtain ⟨vs,H1,I1,r1,q1⟩:=hx9
 obtain ⟨v,w,e1,q1⟩:=q1
 subst e1
 obtain ⟨u1,u2,rfl,rv,rw'⟩:∃ u1 u2,us = [u1,u2]/\bD v u1/\bD w u2:=by
  cases r1 with
  | cons p q =>
   cases q with
   | cons p' q' =>
    cases q'
    exact ⟨_,_,rfl,p,p'⟩
 refine wpAny_newObj_type ?_ (by show 2<=sizeLine; decide)
 have I2:Inv X pins σ H1 { s1 with heap:=s1.heap.push { cls:=.type "tuple",data:=.seq [u1,u2].toArray } }:=I1.kept (t':=s1.toks) fun b o e=>Qc _ e
 rw [hw]
 refine wpAny_bind (wpAny_pure ?_)
 show wpAny (model X.prog X.w) X.A (do rule "assign.swapped-stores"; let items<-unpackItems (.ref s1.heap.objs.size) 2 none; assignInOrder [fun v=>bindName X.env y v,fun v=>bindName X.env x v] items.reverse; pure Flow.next) _ _ _
 refine wpAny_bind (wpAny_rule (wpAny_bind (unpackItems_tuple (items:=#[u1,u2]) (I.ok.hd hc) (IsTup.new s1.heap _) fun h' hx'=>?_)))
 have I3:=I2.kept (h':=h') (t':=s1.toks) fun b o e=>hx' b o (Jq (Qm e)) e
 show wpAny _ _ (assignInOrder [fun v=>bindName X.env y v,fun v=>bindName X.env x v] [u2,u1] >>= fun _=>pure Flow.next) _ _ _
 refine wpAny_bind (assignInOrder_cons (wpAny_bindName (mK I3 hN hj (.inl hy) rw' (fun s2 I4=>?_) (.inr hy))))
 refine assignInOrder_cons (wpAny_bindName (mK I4 hN hi (.inl hx) rv (fun s3 I5=>assignInOrder_nil (wpAny_pure ?_)) (.inr hx)))
 rw [List.set_comm _ _ (Ne.symm hij)] at I5
 exact ⟨_,H1,I5,q1⟩
def aFx (to ti te:TE) (tget:V->V->Hp->VK->Prop) (tip:TIp) (tset:aBu):TS:=fun D σ H=>to σ H fun o H1=>ti σ H1 fun i H2=>tget o i H2 fun x H3=>te σ H3 fun y H4=>tip x y H4 fun z H5=>tset o i z H5 fun H6=>D.nx σ H6
def aFy (X:Cx) (t:V->V->Hp->VK->Prop):Prop :=
 ∀ (pins:List (Addr×Obj)) (s:Shared) (σ:St) (H:Hp) (o i:V) (ov iv:Value) (Q:VK),Inv X pins σ H s->bD o ov->bD i iv->t o i H Q ->
  wpAny (model X.prog X.w) X.A (getItem ov iv) (EP X pins σ Q) X.xe s
theorem aC7 {o i e:Expr} {to ti te:TE} {tget:V->V->Hp->VK->Prop} {tip:TIp} {tset:aBu} {op:Operator} {tpos:Pos} (ho:PE X o to) (hi:PE X i ti) (hg:aFy X tget) (he:PE X e te) (hp:PIp X op tip) (hs:aEK X tset)
  (ha:∀ ov iv new,augStore i ov iv new=(do holding [new,ov,iv] (setItem ov iv new); release [new,ov,iv] []; pure .next):=by intros; rfl):PS X (.AugAssign (.Subscript o i tpos) op e pos) (aFx to ti te tget tip tset):=by
 intro pins s σ H D I h
 refine wpAny_AugAssign_SubscriptAny (thn (ho pins s σ H _ I h) fun ov s1 hx9=>?_) ha
 obtain ⟨x1,H1,I1,r1,q1⟩:=hx9
 refine thn (hi pins s1 σ H1 _ I1 q1) fun iv s2 hx9=>?_
 obtain ⟨x2,H2,I2,r2,q2⟩:=hx9
 refine thn (hg pins s2 σ H2 x1 x2 ov iv _ I2 r1 r2 q2) fun old s3 hx9=>?_
 obtain ⟨x3,H3,I3,r3,q3⟩:=hx9
 refine thn (he pins s3 σ H3 _ I3 q3) fun v s4 hx9=>?_
 obtain ⟨x4,H4,I4,r4,q4⟩:=hx9
 refine thn (hp pins s4 σ H4 x3 x4 old v _ I4 r3 r4 q4) fun new s5 hx9=>?_
 obtain ⟨x5,H5,I5,r5,q5⟩:=hx9
 refine thn (hs pins s5 σ H5 x1 x2 x5 ov iv new _ I5 r1 r2 r5 q5) fun _ s6 hx9=>?_
 obtain ⟨H6,I6,q6⟩:=hx9
 exact ⟨σ,H6,I6,q6⟩
def ipI (f:Int->Int->Int):TIp:=fun x y H Q=>∃ i j,x=.int i/\y=.int j/\Q (.int (f i j)) H
theorem aEL:PIp X .Sub (ipI fun i j=>i - j):=by
 intro pins s σ H x y v u Q I r1 r2 h
 obtain ⟨i,j,e1,e2,q⟩:=h
 subst e1; subst e2
 obtain ⟨t,rfl⟩:=r1
 obtain ⟨t',rfl⟩:=r2
 exact isub_int ⟨.int _,H,I.tok _,⟨_,rfl⟩,q⟩
def aEM (c:TT) (tb:TS):TS:=fun D σ H=>∃ W:Nat->St->Hp->Prop,(∃ m,W m σ H)/\∀ m σ H,W m σ H ->
 c σ H fun b H1=>if b=true then ∃ N:St->Hp->Prop,(∀ σ' H',N σ' H'->∃ m',m' < m/\W m' σ' H')/\tb { D with nx:=N,ct:=N,bk:=D.nx } σ H1 else D.nx σ H1
theorem jX {c:Expr} {body:List Stmt} {tc:TT} {tb:TS} (hp:PassesOwn (model X.prog X.w) X.A X.env X.xe) (hc:PT X c tc) (hb:PSs X body tb):PS X (.While c body [] pos) (aEM tc tb):=by
 intro pins s σ H D I h
 obtain ⟨W,⟨m0,w0⟩,turn⟩:=h
 refine wpAny_While (codeAny_whileLoop (fun n s'=>∃ σ' H',Inv X pins σ' H' s'/\W n σ' H') ?_ m0 ⟨σ,H,I,w0⟩)
 rintro n s1 ⟨σ1,H1,I1,w1⟩
 refine wpAny_passesOwn hp (thn (hc pins s1 σ1 H1 _ I1 (turn n σ1 H1 w1)) fun b s2 hx9=>?_)
 obtain ⟨H2,I2,q2⟩:=hx9
 cases b with
 | true =>
  obtain ⟨N,hN,q2⟩:=q2
  rw [if_pos rfl]
  refine wpAny_passesOwn hp (thn (hb pins s2 σ1 H2 _ I2 q2) fun f s3 q3=>?_)
  cases f with
  | next =>
   obtain ⟨σ3,H3,I3,n3⟩:=q3
   obtain ⟨m',hm,w3⟩:=hN σ3 H3 n3
   exact ⟨m',hm,σ3,H3,I3,w3⟩
  | cont =>
   obtain ⟨σ3,H3,I3,n3⟩:=q3
   obtain ⟨m',hm,w3⟩:=hN σ3 H3 n3
   exact ⟨m',hm,σ3,H3,I3,w3⟩
  | brk=>exact q3
  | ret v=>exact q3
 | false =>
  rw [if_neg Qw]
  exact wpAny_execs_nil ⟨σ1,H2,I2,q2⟩
end
structure It where
 go:Nat->Hp->Prop
 yld:Nat->Hp->V->Hp->Prop
 stop:Nat->Hp->Prop
def gU (X:Cx) (pins:List (Addr×Obj)) (H:Hp) (b:Addr):Prop :=
 H b=none/\b≠X.env.locals/\b∉X.fs/\(b∈X.ex∨X.s₀.heap.objs.size<=b)/\(∀ x c,X.env.cells.lookup x=some c->c≠b)/\∀ p∈X.pn++pins,p.1≠b
theorem Inv.fpOk {X:Cx} {pins:List (Addr×Obj)} {σ:St} {H H':Hp} {s:Shared} {b:Addr} (I:Inv X pins σ H s) (hb:s.heap.objs.size<=b) (hn:H' b=none):gU X pins H' b:=by
 refine ⟨hn,Wu (Qi I.lt hb),I.nofs hb,.inr (Qv I.sz hb),fun x c e z=>?_,fun p hp z=>?_⟩
 ·obtain ⟨v,q⟩:=I.cell x c e
  exact absurd (Qi q.lt (by rw [z]; exact hb)) (Qu _)
 ·exact absurd (Qi (Qm (I.pin p hp).1) (by rw [z]; exact hb)) (Qu _)
structure Turn (P:Program) (w:World) (K:PySem.W.Frag) (tg:Expr) (J:It) (fp:List Addr) (it:Addr) (tn:Nat->Heap->Prop):Prop where
 mem:it∈fp
 obj:∀ i h,tn i h->∀ b∈fp,∃ o,h.get? b=some o/\∀ v,o.data≠.cell v
 keep:∀ i h h',tn i h->(∀ b∈fp,∀ o,h.get? b=some o->h'.get? b=some o)->tn i h'
 item:∀ (X:Cx),X.prog=P->X.w=w->X.K=K->X.calm=true->∀ (i:Nat) (pins:List (Addr×Obj)) (s:Shared) (σ:St) (H:Hp) (E:Value->Shared->Prop),Inv X pins σ H s->(∀ b∈fp,gU X pins H b)->tn i s.heap->J.go i H ->
  wpAny (model P w) X.A (pyNext (.ref it)) (fun r s1=>∃ u,r=some u /\
   wpAny (model P w) X.A (letOwnedTupleGo tg (.ref it) u) (fun _ s2=>∃ x H',Inv X pins σ H' s2/\bD x u/\J.yld i H x H'/\tn (i+1) s2.heap/\∀ b∈fp,H' b=none) E s1) E s
 done:∀ (X:Cx),X.prog=P->X.w=w->X.K=K->X.calm=true->∀ (i:Nat) (pins:List (Addr×Obj)) (s:Shared) (σ:St) (H:Hp) (E:Value->Shared->Prop),Inv X pins σ H s->(∀ b∈fp,gU X pins H b)->tn i s.heap->J.stop i H ->
  wpAny (model P w) X.A (pyNext (.ref it)) (fun r s1=>r=none/\Inv X pins σ H s1) E s
 self:∀ (A:Around) (i:Nat) (s:Shared) (Q:Value->Shared->Prop) (E:Value->Shared->Prop),tn i s.heap->Q (.ref it) s->wpAny (model P w) A (pyIter (.ref it)) Q E s
abbrev TI:=St->Hp->(It->Hp->Prop)->Prop
def PIE (X:Cx) (pins:List (Addr×Obj)) (σ:St) (tg:Expr) (R:It->Hp->Prop) (itv:Value) (s2:Shared):Prop :=
 ∃ (it:Addr) (fp:List Addr) (tn:Nat->Heap->Prop) (J:It) (H':Hp),itv=.ref it/\Inv X pins σ H' s2/\Turn X.prog X.w X.K tg J fp it tn/\tn 0 s2.heap/\(∀ b∈fp,gU X pins H' b)/\R J H'
def PI (X:Cx) (tg iter:Expr) (wi:TI):Prop :=
 ∀ (pins:List (Addr×Obj)) (s:Shared) (σ:St) (H:Hp) (R:It->Hp->Prop),Inv X pins σ H s->wi σ H R ->
  wpAny (model X.prog X.w) X.A (eval iter X.env) (fun v s1=>wpAny (model X.prog X.w) X.A (pyIter v) (PIE X pins σ tg R) X.xe s1) X.xe s
theorem zK {M:Model} {A:Around} {E:Value->Shared->Prop} {s:Shared} {tg:Expr} {it:Addr} {u:Value} {o:Obj} {n:String} {vs:Array Value} {Q:Unit->Shared->Prop} (ho:s.heap.get? it=some o) (hc:o.cls=.type n) (hd:o.data=.fields vs)
  (hn : ["enumerate", "zip", "dict_itemiterator", "dict_reverseitemiterator", "odict_iterator", "itertools.zip_longest", "itertools.pairwise"].contains n=false) (hQ:Q () s):wpAny M A (letOwnedTupleGo tg (.ref it) u) Q E s:=by
 unfold letOwnedTupleGo
 cases tg <;> first
  | exact wpAny_pure hQ
  | (cases u <;> first
    | exact wpAny_pure hQ
    | (refine wpAny_bind (wpAny_load ho ?_)
       rw [hc,hd]
       show wpAny M A (if (["enumerate", "zip", "dict_itemiterator", "dict_reverseitemiterator", "odict_iterator", "itertools.zip_longest", "itertools.pairwise"].contains n && vs[0]?==some (rawInt _))=true then _ else _) Q E s
       rw [if_neg (by intro h; rw [hn,Yg] at h; cases h)]
       exact wpAny_pure hQ))
def Itl (K:PySem.W.Frag) (a:Addr):It :=
 ⟨fun i H=>∃ xs x,SqL K H a xs/\xs[i]?=some x,fun i H x H'=>H'=H/\∀ xs,SqL K H a xs->xs[i]?=some x,fun i H=>∃ xs,SqL K H a xs/\xs.length<=i⟩
def Itt (K:PySem.W.Frag) (a:Addr):It :=
 ⟨fun i H=>∃ xs x,SqT K H a xs/\xs[i]?=some x,fun i H x H'=>H'=H/\∀ xs,SqT K H a xs->xs[i]?=some x,fun i H=>∃ xs,SqT K H a xs/\xs.length<=i⟩
def Itr (lo:Int) (n:Nat):It:=⟨fun i _=>i < n,fun i H x H'=>H'=H/\x=.int (lo+i),fun i _=>n<=i⟩
theorem aAB {P:Program} {w:World} {K:PySem.W.Frag} {tg:Expr} (a it:Addr):Turn P w K tg (Itl K a) [it] it (fun i h=>h.IsListIter it a i) where
 mem:=by simp
 obj:=fun i h st b hb=>by
  have e:b=it:=by simpa using hb
  subst e
  obtain ⟨o,e,c,d⟩:=st
  exact ⟨o,e,fun v z=>by rw [d] at z; cases z⟩
 keep:=fun i h h' st k=>st.at fun o e=>k it (by simp) o e
 item:=by
  intro X hP hw hK hc i pins s σ H E I hf st hg
  subst hP hw hK
  obtain ⟨xs,x,hq,hx⟩:=hg
  obtain ⟨its,rv,p,hz⟩:=I.list hq
  obtain ⟨u,hu,ru⟩:=rv.get hx
  obtain ⟨f0,f1,f2,f3,f4,f5⟩:=hf it (by simp)
  refine wpAny_pyNext_list_item st p.isList (x:=u) (by simpa using hu) fun h' st' sb=>?_
  have I1:Inv X pins σ H { s with heap:=h' }:=I.turned (t':=s.toks) (fun b o hb e=>(sb.2 b hb).trans e) f0 f1 f3 f4 f5
  obtain ⟨o,e,c,d⟩:=id st'
  exact ⟨u,rfl,zK (s:={ s with heap:=h' }) e c d (by decide) ⟨x,H,I1,ru,⟨rfl,fun ys hy=>by rw [I.list_inj hy hq]; exact hx⟩,st',fun b hb=>(hf b hb).1⟩⟩
 done:=by
  intro X hP hw hK hc i pins s σ H E I hf st hg
  subst hP hw hK
  obtain ⟨xs,hq,hx⟩:=hg
  obtain ⟨its,rv,p,hz⟩:=I.list hq
  obtain ⟨f0,f1,f2,f3,f4,f5⟩:=hf it (by simp)
  have hl:=rv.length
  exact wpAny_pyNext_list_end (I.ok.hd hc) st p.isList (by simp; omega) fun h' eb=>⟨rfl,I.turned (t':=s.toks) (fun b o hb e=>eb b o hb e) f0 f1 f3 f4 f5⟩
 self:=fun _ _ _ _ _ st h=>wpAny_pyIter_listiter st h
theorem xT {P:Program} {w:World} {K:PySem.W.Frag} {tg:Expr} (a it:Addr):Turn P w K tg (Itt K a) [it] it (fun i h=>h.IsTupleIter it a i) where
 mem:=by simp
 obj:=fun i h st b hb=>by
  have e:b=it:=by simpa using hb
  subst e
  obtain ⟨o,e,c,d⟩:=st
  exact ⟨o,e,fun v z=>by rw [d] at z; cases z⟩
 keep:=fun i h h' st k=>st.at fun o e=>k it (by simp) o e
 item:=by
  intro X hP hw hK hc i pins s σ H E I hf st hg
  subst hP hw hK
  obtain ⟨xs,x,hq,hx⟩:=hg
  obtain ⟨its,rv,p,hz⟩:=I.tuple hq
  obtain ⟨u,hu,ru⟩:=rv.get hx
  obtain ⟨f0,f1,f2,f3,f4,f5⟩:=hf it (by simp)
  refine wpAny_pyNext_tuple_item st (show s.heap.IsTuple a its.toArray from p) (x:=u) (by simpa using hu) fun h' st' sb=>?_
  have I1:Inv X pins σ H { s with heap:=h' }:=I.turned (t':=s.toks) (fun b o hb e=>(sb.2 b hb).trans e) f0 f1 f3 f4 f5
  obtain ⟨o,e,c,d⟩:=id st'
  exact ⟨u,rfl,zK (s:={ s with heap:=h' }) e c d (by decide) ⟨x,H,I1,ru,⟨rfl,fun ys hy=>by rw [I.tuple_inj hy hq]; exact hx⟩,st',fun b hb=>(hf b hb).1⟩⟩
 done:=by
  intro X hP hw hK hc i pins s σ H E I hf st hg
  subst hP hw hK
  obtain ⟨xs,hq,hx⟩:=hg
  obtain ⟨its,rv,p,hz⟩:=I.tuple hq
  obtain ⟨f0,f1,f2,f3,f4,f5⟩:=hf it (by simp)
  have hl:=rv.length
  exact wpAny_pyNext_tuple_end (I.ok.hd hc) st (show s.heap.IsTuple a its.toArray from p) (by simp; omega) fun h' eb=>⟨rfl,I.turned (t':=s.toks) (fun b o hb e=>eb b o hb e) f0 f1 f3 f4 f5⟩
 self:=fun _ _ _ _ _ st h=>wpAny_pyIter_tupleiter st h
theorem xU {P:Program} {w:World} {K:PySem.W.Frag} {tg:Expr} (it:Addr) (lo:Int) (n:Nat):Turn P w K tg (Itr lo n) [it] it (fun i h=>IsRangeIter h it (lo+(i:Nat)*1) ((n:Int) - (i:Nat)) 1) where
 mem:=by simp
 obj:=fun i h st b hb=>by
  have e:b=it:=by simpa using hb
  subst e
  exact ⟨_,st,fun v z=>by
   have z':Data.fields _=Data.cell v:=z
   cases z'⟩
 keep:=fun i h h' st k=>k it (by simp) _ st
 item:=by
  intro X hP hw hK hc i pins s σ H E I hf st hg
  subst hP hw hK
  obtain ⟨f0,f1,f2,f3,f4,f5⟩:=hf it (by simp)
  have W:=Walks.range (prog:=X.prog) (w:=X.w) (I.ok.hd hc) it lo 1 n
  refine W.item i s _ _ hg st fun v h' tk hv st' kk=>?_
  obtain ⟨t,rfl⟩:=hv
  have I1:Inv X pins σ H { s with heap:=h',toks:=tk }:=I.turned (fun b o hb e=>kk b o (by simpa using hb) e) f0 f1 f3 f4 f5
  refine ⟨_,rfl,zK (s:={ s with heap:=h',toks:=tk }) (n := "range_iterator") st' rfl rfl (by decide) ⟨.int (lo+i),H,I1,⟨t,?_⟩,⟨rfl,rfl⟩,st',fun b hb=>(hf b hb).1⟩⟩
  rw [Xz]
 done:=by
  intro X hP hw hK hc i pins s σ H E I hf st hg
  subst hP hw hK
  obtain ⟨f0,f1,f2,f3,f4,f5⟩:=hf it (by simp)
  exact wpAny_pyNext_range_end (I.ok.hd hc) st (by have:n<=i:=hg; omega) fun h' eb=>⟨rfl,I.turned (t':=s.toks) (fun b o hb e=>eb b o hb e) f0 f1 f3 f4 f5⟩
 self:=fun _ _ _ _ _ st h=>wpAny_pyIter_rangeiter st h
section
variable {X:Cx} {tg:Expr}
def aEf (K:PySem.W.Frag) (tl:TE):TI:=fun σ H R=>tl σ H fun x H1=>∃ a,x=.ref a/\(∃ xs,SqL K H1 a xs)/\R (Itl K a) H1
def aFz (K:PySem.W.Frag) (tl:TE):TI:=fun σ H R=>tl σ H fun x H1=>∃ a,x=.ref a/\(∃ xs,SqT K H1 a xs)/\R (Itt K a) H1
theorem cY {l:Expr} {tl:TE} (hl:PE X l tl):PI X tg l (aEf X.K tl):=by
 intro pins s σ H R I h
 refine thn (hl pins s σ H _ I h) fun v s1 hx9=>?_
 obtain ⟨x,H1,I1,r1,q1⟩:=hx9
 obtain ⟨a,e,⟨xs,hq⟩,q⟩:=q1
 subst e
 cases r1
 obtain ⟨its,rv,p,hz⟩:=I1.list hq
 refine wpAny_pyIter_list p.isList ?_
 refine ⟨s1.heap.objs.size,[s1.heap.objs.size],_,_,H1,rfl,I1.kept (t':=s1.toks) fun b o e=>Qc _ e,aAB a _,⟨_,Qq _ rfl,rfl,rfl⟩,fun b hb=>?_,q⟩
 have e:b=s1.heap.objs.size:=by simpa using hb
 subst e
 exact I1.fpOk (Qk _) (I1.hok.fresh (Qk _))
theorem iK {l:Expr} {tl:TE} (hl:PE X l tl):PI X tg l (aFz X.K tl):=by
 intro pins s σ H R I h
 refine thn (hl pins s σ H _ I h) fun v s1 hx9=>?_
 obtain ⟨x,H1,I1,r1,q1⟩:=hx9
 obtain ⟨a,e,⟨xs,hq⟩,q⟩:=q1
 subst e
 cases r1
 obtain ⟨its,rv,p,hz⟩:=I1.tuple hq
 refine wpAny_pyIter_tuple (show s1.heap.IsTuple a its.toArray from p) ?_
 refine ⟨s1.heap.objs.size,[s1.heap.objs.size],_,_,H1,rfl,I1.kept (t':=s1.toks) fun b o e=>Qc _ e,xT a _,⟨_,Qq _ rfl,rfl,rfl⟩,fun b hb=>?_,q⟩
 have e:b=s1.heap.objs.size:=by simpa using hb
 subst e
 exact I1.fpOk (Qk _) (I1.hok.fresh (Qk _))
theorem vM {pins:List (Addr×Obj)} {σ:St} {H:Hp} {s:Shared} {R:It->Hp->Prop} {E:Value->Shared->Prop} {lo hi:Int} {t u v:Tok} {tk:Nat} (I:Inv X pins σ H s) (h1:-(2^62)<=lo) (h2:lo < 2^62) (h3:-(2^62)<=hi) (h4:hi < 2^62)
  (q:R (Itr lo (hi - lo).toNat) H):wpAny (model X.prog X.w) X.A (pyIter (.ref s.heap.objs.size)) (PIE X pins σ tg R) E { s with heap:=s.heap.push { cls:=.type "range",data:=.fields #[.int lo t,.int hi u,.int 1 v] },toks:=tk }:=by
 refine wpAny_pyIter_range (IsRange.new ..) (small_one h1 h2 h3 h4) ?_
 have I1:Inv X pins σ H { s with heap:=s.heap.push { cls:=.type "range",data:=.fields #[.int lo t,.int hi u,.int 1 v] },toks:=tk }:=I.kept fun b o e=>Qc _ e
 refine ⟨(s.heap.push { cls:=.type "range",data:=.fields #[.int lo t,.int hi u,.int 1 v] }).objs.size,[(s.heap.push { cls:=.type "range",data:=.fields #[.int lo t,.int hi u,.int 1 v] }).objs.size],_,_,H,rfl,
  I1.kept (t':=tk) fun b o e=>Qc _ e,xU _ lo (hi - lo).toNat,?_,fun b hb=>?_,q⟩
 ·have e1:lo+((0:Nat):Int)*1=lo:=by simp
  have e2:(((hi - lo).toNat:Nat):Int) - ((0:Nat):Int)=Builtin.Range.rangeSize lo hi 1:=by rw [rangeSize_one]; split <;> omega
  show IsRangeIter _ _ (lo+((0:Nat):Int)*1) ((((hi - lo).toNat:Nat):Int) - ((0:Nat):Int)) 1
  rw [e1,e2]
  exact Qq _ rfl
 ·have e:b=(s.heap.push { cls:=.type "range",data:=.fields #[.int lo t,.int hi u,.int 1 v] }).objs.size:=by simpa using hb
  subst e
  exact I1.fpOk (Qk _) (I1.hok.fresh (Qk _))
def aFA (ta:TA):TI:=fun σ H R=>ta σ H fun vs H1=>∃ j:Int,vs = [.int j]/\-(2^62)<=j/\j < 2^62/\R (Itr 0 j.toNat) H1
def aFB (ta:TA):TI:=fun σ H R=>ta σ H fun vs H1=>∃ i j:Int,vs = [.int i,.int j]/\(-(2^62)<=i/\i < 2^62/\-(2^62)<=j/\j < 2^62)/\R (Itr i (j - i).toNat) H1
theorem cK {a:Expr} {ta:TA} {p pos:Pos} (hg:Gl X "range") (hm:X.mg "range" = none) (ha:PA X [a] ta) (hs:starEach [a] X.env = [(false,eval a X.env)]:=by rfl):PI X tg (.Call (.Name "range" p) [a] [] pos) (aFA ta):=by
 intro pins s σ H R I h
 refine Call_ (kF I hg hm boot_range (PyProof.Rows.callWith_type1 (thn (ha pos pins s σ H _ I h) fun us s1 hx9=>?_) hs rfl))
 obtain ⟨vs,H1,I1,r1,q1⟩:=hx9
 obtain ⟨j,e,q1,q2,q⟩:=q1
 subst e
 cases r1 with
 | cons r rr =>
  cases rr
  obtain ⟨t,rfl⟩:=r
  exact call_range_1 (vM I1 (by omega) (by omega) q1 q2 (by simpa using q))
theorem aAC {a b:Expr} {ta:TA} {p pos:Pos} (hg:Gl X "range") (hm:X.mg "range" = none) (ha:PA X [a,b] ta) (hs:starEach [a,b] X.env = [(false,eval a X.env),(false,eval b X.env)]:=by rfl) (hs2:starEach [b] X.env = [(false,eval b X.env)]:=by rfl) :
  PI X tg (.Call (.Name "range" p) [a,b] [] pos) (aFB ta):=by
 intro pins s σ H R I h
 refine Call_ (kF I hg hm boot_range (PyProof.Rows.callWith_type1 (thn (ha pos pins s σ H _ I h) fun us s1 hx9=>?_) (by rw [hs,hs2]) (by rw [hs2]; rfl)))
 obtain ⟨vs,H1,I1,r1,q1⟩:=hx9
 obtain ⟨i,j,e,⟨q1,q2,q3,q4⟩,q⟩:=q1
 subst e
 cases r1 with
 | cons r rr =>
  cases rr with
  | cons r' rr =>
   cases rr
   obtain ⟨t,rfl⟩:=r
   obtain ⟨t',rfl⟩:=r'
   exact call_range_2 (vM I1 q1 q2 q3 q4 q)
def aGn (wi:TI) (g:TG) (tb:TS):TS:=fun D σ H=>wi σ H fun J H1=>∃ W:Nat->Nat->St->Hp->Prop,(∃ m,W 0 m σ H1)/\∀ i m σ H,W i m σ H ->
 (J.stop i H/\D.nx σ H)∨(J.go i H/\∃ N:St->Hp->Prop,(∀ σ' H',N σ' H'->∃ m',m' < m/\W (i+1) m' σ' H')/\∀ x H',J.yld i H x H'->g x σ H' fun σ2 H2=>tb { D with nx:=N,ct:=N,bk:=D.nx } σ2 H2)
def jU (fp:List Addr) (h:Heap):List (Addr×Obj):=fp.filterMap fun b=>(h.get? b).map fun o=>(b,o)
theorem bY {fp:List Addr} {h:Heap} {b:Addr} {o:Obj} (hb:b∈fp) (e:h.get? b=some o):(b,o)∈jU fp h:=Yv.mpr ⟨b,hb,by rw [e]; rfl⟩
theorem nK {fp:List Addr} {h:Heap} {p:Addr×Obj} (hp:p∈jU fp h):p.1∈fp/\h.get? p.1=some p.2:=by
 obtain ⟨b,hb,e⟩:=Yv.mp hp
 cases q:h.get? b with
 | none=>rw [q] at e; cases e
 | some o =>
  rw [q] at e
  have e':(b,o)=p:=Option.some.inj e
  subst e'
  exact ⟨hb,q⟩
theorem Inv.pinned {pins:List (Addr×Obj)} {σ:St} {H:Hp} {s:Shared} {fp:List Addr} (I:Inv X pins σ H s) (hf:∀ b∈fp,gU X pins H b) (ho:∀ b∈fp,∃ o,s.heap.get? b=some o/\∀ v,o.data≠.cell v):Inv X (pins++jU fp s.heap) σ H s :=
 I.pins_of fun p hp=>(Jm.mp hp).elim (fun z=>I.pin p (Qj _ z)) fun z=>by
  obtain ⟨hb,e⟩:=nK z
  obtain ⟨f0,f1,f2,_⟩:=hf p.1 hb
  obtain ⟨o,e',d⟩:=ho p.1 hb
  rw [e] at e'; cases e'
  exact ⟨e,f0,f1,f2,d⟩
theorem Inv.unpinned {pins pl:List (Addr×Obj)} {σ:St} {H:Hp} {s:Shared} (I:Inv X (pins++pl) σ H s):Inv X pins σ H s:=I.pins_of fun p hp=>I.pin p (Qj _ (Jf _ hp))
theorem eJ {iter:Expr} {body:List Stmt} {wi:TI} {g:TG} {tb:TS} {pos:Pos} (hp:PassesOwn (model X.prog X.w) X.A X.env X.xe) (hc:X.calm=true) (hi:PI X tg iter wi) (hg:PG X tg g) (hb:PSs X body tb)
  (hs:∀ x,foldedSetIterable iter X.env x=pure x:=by intro _; rfl):PS X (.For tg iter body [] pos) (aGn wi g tb):=by
 intro pins s σ H D I h
 refine wpAny_For (thn (hi pins s σ H _ I h) fun v s1 h1=>thn h1 fun itv s2 h2=>?_) hs
 obtain ⟨it,fp,tn,J,H2,e,I2,T,st2,f2,W,⟨m0,w0⟩,turn⟩:=h2
 subst e
 -- what stays true of the iterator's objects through the loop
 have stat:∀ {H':Hp},(∀ b∈fp,H' b=none)->∀ b∈fp,gU X pins H' b:=fun hn b hb=>⟨hn b hb,(f2 b hb).2⟩
 refine codeAny_forLoop_any (fun n s'=>∃ i σ' H',Inv X pins σ' H' s'/\tn i s'.heap/\(∀ b∈fp,H' b=none)/\W i n σ' H') ?_ m0 ⟨0,σ,H2,I2,st2,fun b hb=>(f2 b hb).1,w0⟩
 rintro n s3 ⟨i,σ3,H3,I3,st3,fr3,w3⟩
 rcases turn i n σ3 H3 w3 with ⟨stop,qn⟩ | ⟨go,N,hN,step⟩
 ·refine wpAny_passesOwn hp (thn (T.done X rfl rfl rfl hc i pins s3 σ3 H3 X.xe I3 (stat fr3) st3 stop) fun r s4 hx9=>?_)
  obtain ⟨hr,I4⟩:=hx9
  subst hr
  exact wpAny_execs_nil ⟨σ3,H3,I4,qn⟩
 ·refine wpAny_passesOwn hp (thn (T.item X rfl rfl rfl hc i pins s3 σ3 H3 X.xe I3 (stat fr3) st3 go) fun r s4 hx9=>?_)
  obtain ⟨u,hr,h4⟩:=hx9
  subst hr
  refine wpAny_passesOwn hp (thn h4 fun _ s5 hx9=>?_)
  obtain ⟨x,H5,I5,r5,y5,st5,fr5⟩:=hx9
  have I5':=I5.pinned (stat fr5) (T.obj _ _ st5)
  refine wpAny_passesOwn hp (thn (hg _ s5 σ3 H5 x u _ I5' r5 (step x H5 y5)) fun _ s6 hx9=>?_)
  obtain ⟨σ6,H6,I6,q6⟩:=hx9
  refine wpAny_passesOwn hp (thn (hb _ s6 σ6 H6 _ I6 q6) fun f s7 q7=>?_)
  have again:∀ {σ7:St} {H7:Hp},Inv X (pins++jU fp s5.heap) σ7 H7 s7->N σ7 H7->∃ m,m < n/\∃ i σ' H',Inv X pins σ' H' s7/\tn i s7.heap/\(∀ b∈fp,H' b=none)/\W i m σ' H':=fun {σ7 H7} I7 n7=>by
   obtain ⟨m',hm,w7⟩:=hN σ7 H7 n7
   refine ⟨m',hm,i+1,σ7,H7,I7.unpinned,T.keep _ _ _ st5 fun b hb o e=>(I7.pin (b,o) (Qj _ (Qj _ (bY hb e)))).1,fun b hb=>?_,w7⟩
   obtain ⟨o,e,d⟩:=T.obj _ _ st5 b hb
   exact (I7.pin (b,o) (Qj _ (Qj _ (bY hb e)))).2.1
  cases f with
  | next=>obtain ⟨σ7,H7,I7,n7⟩:=q7; exact again I7 n7
  | cont=>obtain ⟨σ7,H7,I7,n7⟩:=q7; exact again I7 n7
  | brk=>obtain ⟨σ7,H7,I7,q7⟩:=q7; exact ⟨σ7,H7,I7.unpinned,q7⟩
  | ret v=>obtain ⟨x7,σ7,H7,I7,r7,q7⟩:=q7; exact ⟨x7,σ7,H7,I7.unpinned,r7,q7⟩
end
theorem iY {K:PySem.W.Frag} {a:Addr} {xs:List V} {g:TG} {tb:TS} {D:Ends} {σ:St} {H:Hp} (Pv:Nat->St->Hp->Prop) (h0:Pv 0 σ H) (hl:∀ i σ H,i<=xs.length->Pv i σ H->SqL K H a xs)
  (hs:∀ i x σ H,xs[i]?=some x->Pv i σ H->g x σ H fun σ2 H2=>tb { D with nx:=Pv (i+1),ct:=Pv (i+1),bk:=D.nx } σ2 H2) (hd:∀ σ H,Pv xs.length σ H->D.nx σ H) :
  ∃ W:Nat->Nat->St->Hp->Prop,(∃ m,W 0 m σ H)/\∀ i m σ H,W i m σ H ->
   ((Itl K a).stop i H/\D.nx σ H)∨((Itl K a).go i H/\∃ N:St->Hp->Prop,(∀ σ' H',N σ' H'->∃ m',m' < m/\W (i+1) m' σ' H')/\∀ x H',(Itl K a).yld i H x H'->g x σ H' fun σ2 H2=>tb { D with nx:=N,ct:=N,bk:=D.nx } σ2 H2):=by
 refine ⟨fun i m σ H=>m=xs.length - i/\i<=xs.length/\Pv i σ H,⟨xs.length,by simp,Jj _,h0⟩,?_⟩
 rintro i m σ H ⟨rfl,hi,p⟩
 have q:=hl i σ H hi p
 by_cases hlt:i < xs.length
 ·refine .inr ⟨⟨xs,xs[i],q,by simp [hlt]⟩,Pv (i+1),fun σ' H' p'=>⟨xs.length - (i+1),by omega,rfl,hlt,p'⟩,fun x H' y=>?_⟩
  obtain ⟨e,y⟩:=y
  subst e
  exact hs i x σ _ (y xs q) p
 ·have e:i=xs.length:=by omega
  subst e
  exact .inl ⟨⟨xs,q,Qk _⟩,hd σ H p⟩
theorem aC8 {K:PySem.W.Frag} {a:Addr} {xs:List V} {g:TG} {tb:TS} {D:Ends} {σ:St} {H:Hp} (Pv:Nat->St->Hp->Prop) (h0:Pv 0 σ H) (hl:∀ i σ H,i<=xs.length->Pv i σ H->SqT K H a xs)
  (hs:∀ i x σ H,xs[i]?=some x->Pv i σ H->g x σ H fun σ2 H2=>tb { D with nx:=Pv (i+1),ct:=Pv (i+1),bk:=D.nx } σ2 H2) (hd:∀ σ H,Pv xs.length σ H->D.nx σ H) :
  ∃ W:Nat->Nat->St->Hp->Prop,(∃ m,W 0 m σ H)/\∀ i m σ H,W i m σ H ->
   ((Itt K a).stop i H/\D.nx σ H)∨((Itt K a).go i H/\∃ N:St->Hp->Prop,(∀ σ' H',N σ' H'->∃ m',m' < m/\W (i+1) m' σ' H')/\∀ x H',(Itt K a).yld i H x H'->g x σ H' fun σ2 H2=>tb { D with nx:=N,ct:=N,bk:=D.nx } σ2 H2):=by
 refine ⟨fun i m σ H=>m=xs.length - i/\i<=xs.length/\Pv i σ H,⟨xs.length,by simp,Jj _,h0⟩,?_⟩
 rintro i m σ H ⟨rfl,hi,p⟩
 have q:=hl i σ H hi p
 by_cases hlt:i < xs.length
 ·refine .inr ⟨⟨xs,xs[i],q,by simp [hlt]⟩,Pv (i+1),fun σ' H' p'=>⟨xs.length - (i+1),by omega,rfl,hlt,p'⟩,fun x H' y=>?_⟩
  obtain ⟨e,y⟩:=y
  subst e
  exact hs i x σ _ (y xs q) p
 ·have e:i=xs.length:=by omega
  subst e
  exact .inl ⟨⟨xs,q,Qk _⟩,hd σ H p⟩
theorem iU {lo:Int} {n:Nat} {g:TG} {tb:TS} {D:Ends} {σ:St} {H:Hp} (Pv:Nat->St->Hp->Prop) (h0:Pv 0 σ H)
  (hs:∀ i σ H,i < n->Pv i σ H->g (.int (lo+i)) σ H fun σ2 H2=>tb { D with nx:=Pv (i+1),ct:=Pv (i+1),bk:=D.nx } σ2 H2) (hd:∀ σ H,Pv n σ H->D.nx σ H) :
  ∃ W:Nat->Nat->St->Hp->Prop,(∃ m,W 0 m σ H)/\∀ i m σ H,W i m σ H ->
   ((Itr lo n).stop i H/\D.nx σ H)∨((Itr lo n).go i H/\∃ N:St->Hp->Prop,(∀ σ' H',N σ' H'->∃ m',m' < m/\W (i+1) m' σ' H')/\∀ x H',(Itr lo n).yld i H x H'->g x σ H' fun σ2 H2=>tb { D with nx:=N,ct:=N,bk:=D.nx } σ2 H2):=by
 refine ⟨fun i m σ H=>m=n - i/\i<=n/\Pv i σ H,⟨n,by simp,Jj _,h0⟩,?_⟩
 rintro i m σ H ⟨rfl,hi,p⟩
 by_cases hlt:i < n
 ·refine .inr ⟨hlt,Pv (i+1),fun σ' H' p'=>⟨n - (i+1),by omega,rfl,hlt,p'⟩,fun x H' y=>?_⟩
  obtain ⟨e,y⟩:=y
  subst e y
  exact hs i σ _ hlt p
 ·have e:i=n:=by omega
  subst e
  exact .inl ⟨Qk _,hd σ H p⟩
abbrev R2:=V->V->Hp->VK->Prop
def OpR (X:Cx) (f:Value->Value->Sem Value) (r:R2):Prop :=
 ∀ (pins:List (Addr×Obj)) (s:Shared) (σ:St) (H:Hp) (x y:V) (v u:Value) (Q:VK),Inv X pins σ H s->bD x v->bD y u->r x y H Q ->
  wpAny (model X.prog X.w) X.A (f v u) (EP X pins σ Q) X.xe s
def UnR (X:Cx) (f:Value->Sem Value) (r:V->Hp->VK->Prop):Prop :=
 ∀ (pins:List (Addr×Obj)) (s:Shared) (σ:St) (H:Hp) (x:V) (v:Value) (Q:VK),Inv X pins σ H s->bD x v->r x H Q ->
  wpAny (model X.prog X.w) X.A (f v) (EP X pins σ Q) X.xe s
def fY (X:Cx) (f:Value) (r:List V->Hp->VK->Prop):Prop :=
 ∀ (pins:List (Addr×Obj)) (s:Shared) (σ:St) (H:Hp) (xs:List V) (us:List Value) (Q:VK),Inv X pins σ H s->bA xs us->r xs H Q ->
  wpAny (model X.prog X.w) X.A (call f us) (EP X pins σ Q) X.xe s
def aGo (X:Cx) (r:V->Hp->(Bool->Hp->Prop)->Prop):Prop :=
 ∀ (pins:List (Addr×Obj)) (s:Shared) (σ:St) (H:Hp) (x:V) (v:Value) (Q:Bool->Hp->Prop),Inv X pins σ H s->bD x v->r x H Q ->
  wpAny (model X.prog X.w) X.A (truthy v) (TP X pins σ Q) X.xe s
def tOp (r:R2) (ta tb:TE):TE:=fun σ H Q=>ta σ H fun x H1=>tb σ H1 fun y H2=>r x y H2 Q
def tUn (r:V->Hp->VK->Prop) (ta:TE):TE:=fun σ H Q=>ta σ H fun x H1=>r x H1 Q
def rI (C:Int->Int->Prop) (g:Int->Int->V):R2:=fun x y H Q=>∃ i j,x=.int i/\y=.int j/\C i j/\Q (g i j) H
def rI0 (g:Int->Int->V):R2:=fun x y H Q=>∃ i j,x=.int i/\y=.int j/\Q (g i j) H
def rU (g:Int->V):V->Hp->VK->Prop:=fun x H Q=>∃ i,x=.int i/\Q (g i) H
section
variable {X:Cx} {a b c:Expr} {ta tb tc:TE} {pos:Pos}
theorem aEN (ha:PE X a ta) (hb:PE X b tb) {pins:List (Addr×Obj)} {s:Shared} {σ:St} {H:Hp} {R:V->V->Hp->Prop} (I:Inv X pins σ H s)
  (h:ta σ H fun x H1=>tb σ H1 fun y H2=>R x y H2) {Q:Value->Shared->Prop} {f:Value->Value->Sem Value}
  (hf:∀ v u s2 x y H2,Inv X pins σ H2 s2->bD x v->bD y u->R x y H2->wpAny (model X.prog X.w) X.A (f v u) Q X.xe s2) :
  wpAny (model X.prog X.w) X.A (eval a X.env) (fun v s₁=>wpAny (model X.prog X.w) X.A (eval b X.env) (fun u s₂=>wpAny (model X.prog X.w) X.A (f v u) Q X.xe s₂) X.xe s₁) X.xe s:=by
 refine thn (ha pins s σ H _ I h) fun v s1 hx9=>?_
 obtain ⟨x,H1,I1,r1,q1⟩:=hx9
 refine thn (hb pins s1 σ H1 _ I1 q1) fun u s2 hx9=>?_
 obtain ⟨y,H2,I2,r2,q2⟩:=hx9
 exact hf v u s2 x y H2 I2 r1 r2 q2
theorem aZ {op:Operator} {r:R2} (ho:OpR X (binaryOp op) r) (ha:PE X a ta) (hb:PE X b tb):PE X (.BinOp a op b pos) (tOp r ta tb):=by
 intro pins s σ H Q I h
 exact wpAny_BinOp (aEN ha hb I h fun v u s2 x y H2 I2 rx ry q=>ho pins s2 σ H2 x y v u Q I2 rx ry q)
theorem aBw {op:UnaryOp} {r:V->Hp->VK->Prop} (ho:UnR X (unaryOp op) r) (ha:PE X a ta):PE X (.UnaryOp op a pos) (tUn r ta):=by
 intro pins s σ H Q I h
 refine UnaryOp_ (thn (ha pins s σ H _ I h) fun v s1 hx9=>?_)
 obtain ⟨x,H1,I1,r1,q1⟩:=hx9
 exact ho pins s1 σ H1 x v Q I1 r1 q1
theorem opI {f:Value->Value->Sem Value} {C:Int->Int->Prop} {g:Int->Int->Int}
  (rule:∀ (i j:Int) (t u:Tok) (s:Shared) (Q:Value->Shared->Prop) (E:Value->Shared->Prop),C i j->Q (.int (g i j) s.toks) { s with toks:=s.toks+1 }->wpAny (model X.prog X.w) X.A (f (.int i t) (.int j u)) Q E s) :
  OpR X f (rI C fun i j=>.int (g i j)):=by
 intro pins s σ H x y v u Q I rx ry h
 obtain ⟨i,j,rfl,rfl,hc,q⟩:=h
 obtain ⟨t,rfl⟩:=rx
 obtain ⟨t',rfl⟩:=ry
 exact rule i j t t' s _ _ hc ⟨.int (g i j),H,I.tok _,⟨_,rfl⟩,q⟩
theorem aFC {f:Value->Value->Sem Value} {g:Int->Int->Int}
  (rule:∀ (i j:Int) (t u:Tok) (s:Shared) (Q:Value->Shared->Prop) (E:Value->Shared->Prop),Q (.int (g i j) s.toks) { s with toks:=s.toks+1 }->wpAny (model X.prog X.w) X.A (f (.int i t) (.int j u)) Q E s) :
  OpR X f (rI0 fun i j=>.int (g i j)):=by
 intro pins s σ H x y v u Q I rx ry h
 obtain ⟨i,j,rfl,rfl,q⟩:=h
 obtain ⟨t,rfl⟩:=rx
 obtain ⟨t',rfl⟩:=ry
 exact rule i j t t' s _ _ ⟨.int (g i j),H,I.tok _,⟨_,rfl⟩,q⟩
theorem aC9 {f:Value->Value->Sem Value} {g:Int->Int->Bool}
  (rule:∀ (i j:Int) (t u:Tok) (s:Shared) (Q:Value->Shared->Prop) (E:Value->Shared->Prop),Q (.bool (g i j)) s->wpAny (model X.prog X.w) X.A (f (.int i t) (.int j u)) Q E s) :
  OpR X f (rI0 fun i j=>.bl (g i j)):=by
 intro pins s σ H x y v u Q I rx ry h
 obtain ⟨i,j,rfl,rfl,q⟩:=h
 obtain ⟨t,rfl⟩:=rx
 obtain ⟨t',rfl⟩:=ry
 exact rule i j t t' s _ _ ⟨.bl (g i j),H,I,rfl,q⟩
def aGp (i j:Int):Prop:=0 < j/\j < 1073741824
def aEO (i j:Int):Prop:=(-(2^64) < i/\i < 2^64)∨(-(2^64) < j/\j < 2^64)
theorem aEO.ok {i j:Int} (h:aEO i j):IntMulOk i j:=by
 rcases h with ⟨h1,h2⟩ | ⟨h1,h2⟩
 ·exact .of_left (intBits_le_64 h1 h2)
 ·exact .of_right (intBits_le_64 h1 h2)
theorem gN:OpR X (binaryOp .Add) (rI0 fun i j=>.int (i+j)):=aFC fun _ _ _ _ _ _ _ q=>add_int q
theorem xV:OpR X (binaryOp .Sub) (rI0 fun i j=>.int (i - j)):=aFC fun _ _ _ _ _ _ _ q=>sub_int q
theorem pP:OpR X (binaryOp .Mult) (rI aEO fun i j=>.int (i*j)):=opI fun _ _ _ _ _ _ _ hc q=>mul_int q hc.ok
theorem aDa:OpR X (binaryOp .FloorDiv) (rI aGp fun i j=>.int (i / j)):=opI fun i j _ _ _ _ _ hc q=>by
 have h1:(0:Int) < j:=hc.1
 have h2:j < 1073741824:=hc.2
 exact floordiv_int (by omega) (by rw [Zt i (by omega)]; exact q) (.inl (PyProof.noPylong_small (by omega)))
theorem mC:OpR X (binaryOp .Mod) (rI (fun _ j=>0 < j) fun i j=>.int (i % j)):=opI fun i j _ _ _ _ _ hc q=>by
 have h1:(0:Int) < j:=hc
 exact mod_int' (by omega) (by rw [Int.fmod_eq_emod_of_nonneg i (by omega)]; exact q)
theorem unI {f:Value->Sem Value} {g:Int->Int}
  (rule:∀ (i:Int) (t:Tok) (s:Shared) (Q:Value->Shared->Prop) (E:Value->Shared->Prop),Q (.int (g i) s.toks) { s with toks:=s.toks+1 }->wpAny (model X.prog X.w) X.A (f (.int i t)) Q E s) :
  UnR X f (rU fun i=>.int (g i)):=by
 intro pins s σ H x v Q I rx h
 obtain ⟨i,rfl,q⟩:=h
 obtain ⟨t,rfl⟩:=rx
 exact rule i t s _ _ ⟨.int (g i),H,I.tok _,⟨_,rfl⟩,q⟩
theorem xW:UnR X (unaryOp .USub) (rU fun i=>.int (-i)):=unI fun _ _ _ _ _ q=>neg_int q
def aFD:V->V->Bool
 | .non,.non=>true | .non,.int _=>true | .int _,.non=>true | .non,.bl _=>true | .bl _,.non=>true | .non,.str _=>true | .str _,.non=>true
 | .int _,.int _=>true | .bl _,.bl _=>true | .str _,.str _=>true | .byt _,.byt _=>true
 | .int _,.str _=>true | .str _,.int _=>true | .bl _,.str _=>true | .str _,.bl _=>true
 | _,_=>false
def rEq:R2:=fun x y H Q=>aFD x y=true/\Q (.bl (decide (x=y))) H
def rNe:R2:=fun x y H Q=>aFD x y=true/\Q (.bl (!decide (x=y))) H
theorem zL {i j:Int}:decide (V.int i=V.int j)=(i==j):=by
 rw [Xm]
 simp
theorem aBx {i j:Bool}:decide (V.bl i=V.bl j)=(i==j):=by
 rw [Xm]
 simp
theorem zM {i j:Str}:decide (V.str i=V.str j)=(i==j):=by
 rw [Xm]
 simp
theorem zN {i j:Array UInt8}:decide (V.byt i=V.byt j)=(i.toList==j.toList):=by
 rw [Xm]
 cases i
 cases j
 simp
theorem bT {pins:List (Addr×Obj)} {σ:St} {H:Hp} {s:Shared} {Q:VK} {k k':Bool} (I:Inv X pins σ H s) (q:Q (.bl k) H) (e:k=k'):EP X pins σ Q (.bool k') s:=by
 subst e
 exact ⟨.bl k,H,I,rfl,q⟩
theorem sY:OpR X (compareOp .Eq) rEq:=by
 intro pins s σ H x y v u Q I rx ry h
 obtain ⟨hs,q⟩:=h
 cases x with
 | non =>
  cases rx
  cases y with
  | non=>cases ry; exact PySem.EqNone.eq_none_none (bT I q (by simp))
  | bl j=>cases ry; exact PySem.EqNone.eq_none_bool (bT I q (by simp))
  | int j=>obtain ⟨t',rfl⟩:=ry; exact PySem.EqNone.eq_none_int (bT I q (by simp))
  | str j=>obtain ⟨t',rfl⟩:=ry; exact PySem.EqNone.eq_none_str (bT I q (by simp))
  | _=>exact absurd (show false=true from hs) Qw
 | bl i =>
  cases rx
  cases y with
  | non=>cases ry; exact PySem.EqNone.eq_bool_none (bT I q (by simp))
  | bl j=>cases ry; exact eq_bool (bT I q aBx)
  | str j=>obtain ⟨t',rfl⟩:=ry; exact PySem.EqMixed.eq_bool_str (bT I q (by simp))
  | _=>exact absurd (show false=true from hs) Qw
 | int i =>
  obtain ⟨t,rfl⟩:=rx
  cases y with
  | non=>cases ry; exact PySem.EqNone.eq_int_none (bT I q (by simp))
  | int j=>obtain ⟨t',rfl⟩:=ry; exact eq_int (bT I q zL)
  | str j=>obtain ⟨t',rfl⟩:=ry; exact PySem.EqMixed.eq_int_str (bT I q (by simp))
  | _=>exact absurd (show false=true from hs) Qw
 | str i =>
  obtain ⟨t,rfl⟩:=rx
  cases y with
  | non=>cases ry; exact PySem.EqNone.eq_str_none (bT I q (by simp))
  | bl j=>cases ry; exact PySem.EqMixed.eq_str_bool (bT I q (by simp))
  | int j=>obtain ⟨t',rfl⟩:=ry; exact PySem.EqMixed.eq_str_int (bT I q (by simp))
  | str j=>obtain ⟨t',rfl⟩:=ry; exact eq_str (bT I q zM)
  | _=>exact absurd (show false=true from hs) Qw
 | byt i =>
  obtain ⟨t,rfl⟩:=rx
  cases y with
  | byt j=>obtain ⟨t',rfl⟩:=ry; exact PySem.W.eq_bytes (bT I q zN)
  | _=>exact absurd (show false=true from hs) Qw
 | _=>cases y <;> exact absurd (show false=true from hs) Qw
theorem zO:OpR X (compareOp .NotEq) rNe:=by
 intro pins s σ H x y v u Q I rx ry h
 obtain ⟨hs,q⟩:=h
 cases x with
 | non =>
  cases rx
  cases y with
  | non=>cases ry; exact PySem.EqNone.ne_none_none (bT I q (by simp))
  | bl j=>cases ry; exact PySem.EqNone.ne_none_bool (bT I q (by simp))
  | int j=>obtain ⟨t',rfl⟩:=ry; exact PySem.EqNone.ne_none_int (bT I q (by simp))
  | str j=>obtain ⟨t',rfl⟩:=ry; exact PySem.EqNone.ne_none_str (bT I q (by simp))
  | _=>exact absurd (show false=true from hs) Qw
 | bl i =>
  cases rx
  cases y with
  | non=>cases ry; exact PySem.EqNone.ne_bool_none (bT I q (by simp))
  | bl j=>cases ry; exact ne_bool (bT I q (congrArg not aBx))
  | str j=>obtain ⟨t',rfl⟩:=ry; exact PySem.EqMixed.ne_bool_str (bT I q (by simp))
  | _=>exact absurd (show false=true from hs) Qw
 | int i =>
  obtain ⟨t,rfl⟩:=rx
  cases y with
  | non=>cases ry; exact PySem.EqNone.ne_int_none (bT I q (by simp))
  | int j=>obtain ⟨t',rfl⟩:=ry; exact ne_int (bT I q (congrArg not zL))
  | str j=>obtain ⟨t',rfl⟩:=ry; exact PySem.EqMixed.ne_int_str (bT I q (by simp))
  | _=>exact absurd (show false=true from hs) Qw
 | str i =>
  obtain ⟨t,rfl⟩:=rx
  cases y with
  | non=>cases ry; exact PySem.EqNone.ne_str_none (bT I q (by simp))
  | bl j=>cases ry; exact PySem.EqMixed.ne_str_bool (bT I q (by simp))
  | int j=>obtain ⟨t',rfl⟩:=ry; exact PySem.EqMixed.ne_str_int (bT I q (by simp))
  | str j=>obtain ⟨t',rfl⟩:=ry; exact ne_str (bT I q (congrArg not zM))
  | _=>exact absurd (show false=true from hs) Qw
 | byt i =>
  obtain ⟨t,rfl⟩:=rx
  cases y with
  | byt j=>obtain ⟨t',rfl⟩:=ry; exact PySem.W.ne_bytes (bT I q (congrArg not zN))
  | _=>exact absurd (show false=true from hs) Qw
 | _=>cases y <;> exact absurd (show false=true from hs) Qw
theorem aBy:OpR X (compareOp .Lt) (rI0 fun i j=>.bl (decide (i < j))):=aC9 fun _ _ _ _ _ _ _ q=>lt_int q
theorem sZ:OpR X (compareOp .LtE) (rI0 fun i j=>.bl (decide (i<=j))):=aC9 fun _ _ _ _ _ _ _ q=>le_int q
theorem lV:OpR X (compareOp .Gt) (rI0 fun i j=>.bl (decide (j < i))):=aC9 fun _ _ _ _ _ _ _ q=>gt_int q
theorem aFE:OpR X (compareOp .GtE) (rI0 fun i j=>.bl (decide (j<=i))):=aC9 fun _ _ _ _ _ _ _ q=>ge_int q
theorem cG (b:Expr) {op:CmpOp} (h:op≠.In:=by decide) (h2:op≠.NotIn:=by decide):behindInMarks op b=false:=by
 have e1:(op==CmpOp.In)=false:=by cases op <;> first | rfl | exact absurd rfl h
 have e2:(op==CmpOp.NotIn)=false:=by cases op <;> first | rfl | exact absurd rfl h2
 cases b <;> simp [behindInMarks,e1,e2]
theorem lJ {op:CmpOp} {r:R2} (ho:OpR X (compareOp op) r) (ha:PE X a ta) (hb:PE X b tb) (hm:behindInMarks op b=false):PE X (.Compare a [op] [b] pos) (tOp r ta tb):=by
 intro pins s σ H Q I h
 exact wpAny_Compare1 (aEN ha hb I h fun v u s2 x y H2 I2 rx ry q=>ho pins s2 σ H2 x y v u Q I2 rx ry q) hm
def aFF (t:TE):TT:=fun σ H Q=>t σ H fun x H'=>∃ k,x=.bl k/\Q k H'
theorem bO {op:CmpOp} {r:R2} (ho:OpR X (compareOp op) r) (ha:PE X a ta) (hb:PE X b tb) (hm:behindInMarks op b=false):PT X (.Compare a [op] [b] pos) (aFF (tOp r ta tb)):=by
 intro pins s σ H Q I h
 refine wpAny_isTrue_Compare1 (thn (ha pins s σ H _ I h) fun v s1 ⟨x,H1,I1,r1,q1⟩=>thn (hb pins s1 σ H1 _ I1 q1) fun u s2 ⟨y,H2,I2,r2,q2⟩ =>
  thn (ho pins s2 σ H2 x y v u _ I2 r1 r2 q2) fun c s3 ⟨z,H3,I3,r3,k,e,q3⟩=>?_) hm
 subst e
 cases r3
 exact wpAny_truthy_bool ⟨H3,I3,q3⟩
def aEP (r r':R2) (ta tb tc:TE):TE:=fun σ H Q=>ta σ H fun x H1=>tb σ H1 fun y H2=>r x y H2 fun z H3=>∃ k,z=.bl k /\
 (if k=true then tc σ H3 fun w' H4=>r' y w' H4 Q else Q (.bl false) H3)
theorem vN {op op':CmpOp} {r r':R2} (ho:OpR X (compareOp op) r) (ho':OpR X (compareOp op') r') (ha:PE X a ta) (hb:PE X b tb) (hc:PE X c tc)
  (hm:lastMarks [op,op'] [b,c]=false:=by with_unfolding_all rfl):PE X (.Compare a [op,op'] [b,c] pos) (aEP r r' ta tb tc):=by
 intro pins s σ H Q I h
 refine Compare_chain (thn (ha pins s σ H _ I h) fun v s1 ⟨x,H1,I1,r1,q1⟩=>chain_link (thn (hb pins s1 σ H1 _ I1 q1) fun u s2 ⟨y,H2,I2,r2,q2⟩ =>
  thn (ho pins s2 σ H2 x y v u _ I2 r1 r2 q2) fun d s3 ⟨z,H3,I3,r3,k,e,q3⟩=>?_)) hm
 subst e
 cases r3
 refine wpAny_truthy_bool ?_
 cases k with
 | false=>exact ite_ff ⟨.bl false,H3,I3,rfl,q3⟩
 | true=>exact ite_tt (chain_last (thn (hc pins s3 σ H3 _ I3 q3) fun w' s4 ⟨z',H4,I4,r4,q4⟩=>ho' pins s4 σ H4 y z' u w' Q I4 r2 r4 q4))
def aFG (K:PySem.W.Frag) (x:V) (H:Hp) (k:Bool):Prop :=
 match x with
 | .non=>k=false
 | .bl b=>k=b
 | .int i=>k=(i !=0)
 | .str y=>y.length<=sizeLine/\k=((y.length:Int) !=0)
 | .byt y=>y.size<=sizeLine/\k=((y.size:Int) !=0)
 | .ref p=>(∃ xs,SqL K H p xs/\k=!xs.isEmpty)∨(∃ xs,SqT K H p xs/\k=!xs.isEmpty)∨∃ kvs,H p=some (.dK kvs)/\k=!kvs.isEmpty
 | _=>False
theorem xX {κ:Type} {kvs:List (κ×V)} {vs:List (κ×Value)} (r:KV kvs vs):(!vs.isEmpty)=!kvs.isEmpty:=by
 cases r <;> rfl
theorem pQ {xs:List V} {its:List Value} (r:bA xs its):(!its.toArray.isEmpty)=!xs.isEmpty:=by
 cases r <;> simp
theorem pR:(sizeLine:Nat) < 2^63:=by rw [sizeLine_eq]; decide
theorem aEQ:aGo X (fun x H Q=>∃ k,aFG X.K x H k/\Q k H):=by
 intro pins s σ H x v Q I rx h
 obtain ⟨k,e,q⟩:=h
 have hl:=pR
 have hs:sizeLine=16777216:=sizeLine_eq
 cases x with
 | non =>
  cases rx
  have e':k=false:=e
  subst e'
  exact truthy_none ⟨H,I,q⟩
 | bl b =>
  cases rx
  have e':k=b:=e
  subst e'
  exact wpAny_truthy_bool ⟨H,I,q⟩
 | int i =>
  obtain ⟨t,rfl⟩:=rx
  have e':k=(i !=0):=e
  subst e'
  exact PySem.P.truthy_int ⟨H,I,q⟩
 | str y =>
  obtain ⟨t,rfl⟩:=rx
  obtain ⟨hy,e'⟩:y.length<=sizeLine/\k=((y.length:Int) !=0):=e
  subst e'
  exact PySem.P.truthy_str (by omega) ⟨H,I.tok _,q⟩
 | byt y =>
  obtain ⟨t,rfl⟩:=rx
  obtain ⟨hy,e'⟩:y.size<=sizeLine/\k=((y.size:Int) !=0):=e
  subst e'
  exact PySem.W.truthy_bytes (by omega) ⟨H,I.tok _,q⟩
 | ref p =>
  cases rx
  have e':(∃ xs,SqL X.K H p xs/\k=!xs.isEmpty)∨(∃ xs,SqT X.K H p xs/\k=!xs.isEmpty)∨∃ kvs,H p=some (.dK kvs)/\k=!kvs.isEmpty:=e
  rcases e' with ⟨xs,hx,e'⟩ | ⟨xs,hx,e'⟩ | ⟨kvs,hx,e'⟩
  ·subst e'
   obtain ⟨its,r,pl,hz⟩:=I.list hx
   have hlen:=r.length
   exact wpAny_truthy_list pl.isList (by simp only [Qs]; omega) ⟨H,I.tok _,by rw [pQ r]; exact q⟩
  ·subst e'
   obtain ⟨its,r,pl,hz⟩:=I.tuple hx
   have hlen:=r.length
   exact truthy_tuple pl (by simp only [Qs]; omega) ⟨H,I.tok _,by rw [pQ r]; exact q⟩
  ·subst e'
   obtain ⟨hz,hS,vs,r,m⟩:kvs.length<=sizeLine/\(p==sysModules)=false/\∃ vs,KV kvs vs/\s.heap.DictOf (bC X.prog X.w) p vs:=I.hok p _ hx
   have hlen:kvs.length=vs.length:=Paired.length r
   exact wpAny_truthy_dict hS m (by omega) ⟨H,I.tok _,by rw [xX r]; exact q⟩
 | _=>exact (show False from e).elim
theorem vO (ha:PE X a ta) (he:∀ whole,isTrue a X.env whole=(do let v<-whole; standAt a.pos; holding [v] (truthy v))) :
  PT X a (fun σ H Q=>ta σ H fun x H'=>∃ k,aFG X.K x H' k/\Q k H'):=by
 intro pins s σ H Q I h
 refine isTrue_plain (thn (ha pins s σ H _ I h) fun v s1 hx9=>?_) (he _)
 obtain ⟨x,H1,I1,r1,q1⟩:=hx9
 exact aEQ pins s1 σ H1 x v Q I1 r1 q1
theorem jJ {x:V} {us:List Value} (r:bA [x] us):∃ u,us = [u]/\bD x u:=by
 cases r with
 | cons r1 r2=>cases r2; exact ⟨_,rfl,r1⟩
theorem mL {x y:V} {us:List Value} (r:bA [x,y] us):∃ u w',us = [u,w']/\bD x u/\bD y w':=by
 cases r with
 | cons r1 r2 =>
  cases r2 with
  | cons r3 r4=>cases r4; exact ⟨_,_,rfl,r1,r3⟩
theorem aAD (hc:X.calm=true):fY X (.builtin "max") (fun xs H Q=>∃ i j,xs = [.int i,.int j]/\Q (.int (if j > i then j else i)) H):=by
 intro pins s σ H xs us Q I r h
 obtain ⟨i,j,rfl,q⟩:=h
 obtain ⟨u,w',rfl,⟨t,rfl⟩,⟨t',rfl⟩⟩:=mL r
 refine max_two_ints (I.ok.hd hc) fun h' tk k=>⟨_,H,I.kept k,?_,q⟩
 by_cases hj:j > i
 ·rw [if_pos hj,if_pos hj]; exact ⟨_,rfl⟩
 ·rw [if_neg hj,if_neg hj]; exact ⟨_,rfl⟩
theorem tD (hc:X.calm=true):fY X (.builtin "min") (fun xs H Q=>∃ i j,xs = [.int i,.int j]/\Q (.int (if j < i then j else i)) H):=by
 intro pins s σ H xs us Q I r h
 obtain ⟨i,j,rfl,q⟩:=h
 obtain ⟨u,w',rfl,⟨t,rfl⟩,⟨t',rfl⟩⟩:=mL r
 refine min_two_ints (I.ok.hd hc) fun h' tk k=>⟨_,H,I.kept k,?_,q⟩
 by_cases hj:j < i
 ·rw [if_pos hj,if_pos hj]; exact ⟨_,rfl⟩
 ·rw [if_neg hj,if_neg hj]; exact ⟨_,rfl⟩
end
structure ObjM (h:Heap) (x dx C:Addr) (mA:Str->Option Value):Prop where
 obj:h.get? x=some (PySem.W.instObj C dx)
 ns:h.Ns1 dx mA
 ne:dx≠x
theorem aAE {h:Heap} {dx:Addr} {mA:Str->Option Value} (n:h.Ns1 dx mA):∃ od,h.get? dx=some od/\∀ name,PySem.W.lookIn name od=some (mA name):=by
 obtain ⟨o,es,ep,ho,hd,hk,_,hm⟩:=n
 refine ⟨o,ho,fun name=>?_⟩
 have e:=hm name
 unfold nsFind findBy at e
 rw [<- Array.find?_toList] at e
 unfold PySem.W.lookIn
 rw [hd]
 dsimp only
 split
 ·rename_i y q
  rw [q] at e
  exact congrArg some e
 ·rename_i q
  rw [q] at e
  have a:es.toList.any (·.refKey)=false:=by
   rw [Wb]
   intro y hy
   obtain ⟨z,t,hkey⟩:=hk y (Array.mem_toList_iff.mp hy)
   simp [DictEntry.refKey,hkey]
  have a':¬ es.toList.any (·.refKey)=true:=by rw [a]; exact Qw
  rw [if_neg a']
  exact congrArg some e
theorem ObjM.look {h:Heap} {x dx C:Addr} {mA:Str->Option Value} (I:ObjM h x dx C mA):∃ od,PySem.W.InstAt h x (PySem.W.instObj C dx) C (some od)/\∀ name,PySem.W.lookIn name od=some (mA name) :=
 let ⟨od,ho,hl⟩:=aAE I.ns
 ⟨od,⟨I.obj,rfl,rfl,ho⟩,hl⟩
section
variable {prog:Program} {w:World} {A:Around} {E:Value->Shared->Prop} {s:Shared} {K:PySem.W.Frag} {x dx C f:Addr} {mA:Str->Option Value} {name:Str} {v:Value}
end
theorem oS.some_of {v:V} {o:Option Value} (r:oS (some v) o):∃ u,o=some u/\bD v u:=by
 cases o with
 | none=>exact (show False from r).elim
 | some u=>exact ⟨u,rfl,r⟩
section
variable {P:Program} {w:World} {H H':Hp} {h h':Heap} {a C dx:Addr} {fs fs':List (Str×V)}
end
structure Cls (K:PySem.W.Frag) (C:Addr):Prop where
 pg:PySem.W.plainGet K C Str.empty=true
 hd:PySem.W.hasDictIn K C=true
 po:PySem.W.plainOver K C=true
 sa:PySem.W.findIn K (.ref C) "__setattr__" = some (some (.builtin "object.__setattr__"))
theorem Cls.get {K:PySem.W.Frag} {C:Addr} (c:Cls K C) (f:Str):PySem.W.plainGet K C f=true:=c.pg
def aBz (K:PySem.W.Frag) (C:Addr) (f:Str):Prop:=PySem.W.findIn K (.ref C) f=some none
theorem aBz.taker {K:PySem.W.Frag} {C:Addr} {f:Str} (n:aBz K C f):PySem.W.takerIn K C f=some none:=by
 unfold PySem.W.takerIn
 rw [show PySem.W.findIn K (.ref C) f=some none from n]
 rfl
structure Con (K:PySem.W.Frag) (C:Addr) (f:Str) (v:V) (u:Value):Prop where
 at_:PySem.W.findIn K (.ref C) f=some (some u)
 rel:bD v u
 get:PySem.W.specialIn K u "__get__" = some none
 cp:PySem.W.copiedNames.contains f=false
structure Meth (K:PySem.W.Frag) (C:Addr) (m:Str) (f:Addr):Prop where
 at_:PySem.W.findIn K (.ref C) m=some (some (.ref f))
 fn:PySem.W.isFn K (.ref f)=true
 kp:PySem.W.keepIn K (.ref f)=true
section
variable {X:Cx} {pins:List (Addr×Obj)} {σ:St} {H:Hp} {s:Shared} {a C dx:Addr} {fs:List (Str×V)} {f:Str} {v:V} {A:Around} {E:Value->Shared->Prop}
end
def aFH (X:Cx) (op:Operator) (rd:V->V->Hp->VK->Prop):Prop :=
 ∀ (pins:List (Addr×Obj)) (s:Shared) (σ:St) (H:Hp) (x y:V) (u v:Value) (Q:VK),Inv X pins σ H s->bD x u->bD y v->rd x y H Q->wpAny (model X.prog X.w) X.A (inplaceOp op u v) (EP X pins σ Q) X.xe s
section
variable {X:Cx} {o e value:Expr} {f:Str} {pos pos' tpos:Pos} {ta tv:TE}
def aGq:V->V->Hp->VK->Prop:=fun x y H Q=>∃ i j,x=.int i/\y=.int j/\Q (.int (i - j)) H
theorem aER:aFH X .Sub aGq:=by
 rintro pins s σ H x y u v Q I rx ry ⟨i,j,rfl,rfl,q⟩
 obtain ⟨t,rfl⟩:=(show ∃ t,u=Value.int i t from rx)
 obtain ⟨t',rfl⟩:=(show ∃ t',v=Value.int j t' from ry)
 exact PyProof.Rows.isub_int ⟨.int (i - j),H,I.tok _,⟨_,rfl⟩,q⟩
end
section
variable {X:Cx} {pins:List (Addr×Obj)} {σ:St} {H:Hp} {s:Shared} {A:Around} {E:Value->Shared->Prop} {Q:Value->Shared->Prop} {c:Value} {b:Bool}
inductive TyOf (K:PySem.W.Frag) (H:Hp):V->Value->Prop where
 | non:TyOf K H .non (.type "NoneType")
 | bl (x:Bool):TyOf K H (.bl x) (.type "bool")
 | int (i:Int):TyOf K H (.int i) (.type "int")
 | str (x:Str):TyOf K H (.str x) (.type "str")
 | flt (x:UInt64):TyOf K H (.flt x) (.type "float")
 | lst {a:Addr} {xs:List V} (e:H a=some (.lst xs)):TyOf K H (.ref a) (.type "list")
 | frz {a:Addr} {o:Obj} {xs:List V} (e:H a=some (.frz o (.lst xs))):TyOf K H (.ref a) (.type "list")
 | tup {a:Addr} {xs:List V} (e:H a=some (.tup xs)):TyOf K H (.ref a) (.type "tuple")
 | dK {a:Addr} {kvs:List (Key×V)} (e:H a=some (.dK kvs)):TyOf K H (.ref a) (.type "dict")
 | dT {a:Addr} {kvs:List (List Key×V)} (e:H a=some (.dT kvs)):TyOf K H (.ref a) (.type "dict")
 | ins {a C dx:Addr} {fs:List (Str×V)} (e:H a=some (.ins C dx fs)) (cl:Cls K C) (ha:PySem.W.findIn K (.ref C) "__class__" = some (some (.builtin "object.__class__")))
   (hn:PySem.W.specialIn K (.builtin "object.__class__") "__get__" = some (some (.builtin "getset_descriptor.__get__"))) (htk:PySem.W.takesIn K (.builtin "object.__class__")=some true)
   (hm:PySem.W.mroIn K C (.type "object")=some true):TyOf K H (.ref a) (.ref C)
end
structure Room (k:Nat) (A:Around):Prop where
 hd:A.handled=none
 dp:A.depth+3*k+5 < recursionLimit
 un:A.units+16*k+200 < cLine
 gd:A.guards=some []
theorem Room.mono {j k:Nat} {A:Around} (r:Room k A) (h:j<=k):Room j A:=⟨r.hd,by have:=r.dp; omega,by have:=r.un; omega,r.gd⟩
theorem Room.deeper {k:Nat} {A:Around} (r:Room (k+1) A) (env:Env):Room k (A.deeper env) :=
 ⟨r.hd,by have:=r.dp; show A.depth+1+3*k+5 < _; omega,by have:=r.un; show A.units+3+16*k+200 < _; omega,r.gd⟩
theorem Room.in1 {k:Nat} {A:Around} (r:Room (k+1) A):Room k A.in1 :=
 ⟨r.hd,by have:=r.dp; show A.depth+3*k+5 < _; omega,by have:=r.un; show A.units+1+16*k+200 < _; omega,r.gd⟩
theorem Room.depth {k:Nat} {A:Around} (r:Room k A):A.depth < recursionLimit:=by have:=r.dp; omega
theorem Room.units {k:Nat} {A:Around} (r:Room k A):A.units+64 < cLine:=by have:=r.un; omega
abbrev aFI:TA:=fun _ H Q=>Q [] H
abbrev aEg (ta:TE) (tr:TA):TA:=fun σ H Q=>ta σ H fun x H1=>tr σ H1 fun xs H2=>Q (x::xs) H2
section
variable {X:Cx} {e:Expr} {es:List Expr} {te:TE} {t:TA} {pos:Pos}
theorem aC:PA X [] aFI:=fun _ _ _ _ H Q I h=>Calls.spliced_nil ⟨[],H,I,.nil,h⟩
theorem aA (ha:PE X e te) (hr:PA X es t) (hs:starEach (e::es) X.env=(false,eval e X.env)::starEach es X.env:=by rfl):PA X (e::es) (aEg te t):=by
 intro pos pins s σ H Q I h
 rw [hs]
 show wpAny _ _ (spliced ((false,eval e X.env)::backTo pos (starEach es X.env))) _ _ s
 refine Calls.spliced_cons (thn (ha pins s σ H _ I h) fun u s1 hx9=>?_)
 obtain ⟨x,H1,I1,r1,q1⟩:=hx9
 refine thn (hr pos pins s1 σ H1 _ I1 q1) fun us s2 hx9=>?_
 obtain ⟨xs,H2,I2,r2,q2⟩:=hx9
 exact ⟨x::xs,H2,I2,.cons r1 r2,q2⟩
def aGr (t:TA):TE:=fun σ H Q=>t σ H fun xs H1=>xs.length<=sizeLine/\∀ p,H1 p=none->Q (.ref p) (upd H1 p (.tup xs))
def aGs (t:TA):TE:=fun σ H Q=>t σ H fun xs H1=>xs.length<=sizeLine/\∀ p,H1 p=none->Q (.ref p) (upd H1 p (.lst xs))
theorem cU {x1} (h:PA X es t):PE X (.Tuple es x1 pos) (aGr t):=by
 intro pins s σ H Q I hq
 refine wpAny_Tuple_spliced (thn (h pos pins s σ H _ I hq) fun us s1 ⟨xs,H1,I1,r,z,q⟩=>⟨by rw [<- r.length]; exact z,?_⟩)
 have hf:H1 s1.heap.objs.size=none:=I1.hok.fresh (Qk _)
 refine ⟨.ref s1.heap.objs.size,upd H1 s1.heap.objs.size (.tup xs),I1.laid (t':=s1.toks) (fun b u e=>Qc _ e) (Qk _) ?_,rfl,q _ hf⟩
 exact ⟨z,us,0,r,Qq _ rfl⟩
theorem eO (h:PA X es t):PE X (.List es pos) (aGs t):=by
 intro pins s σ H Q I hq
 refine wpAny_List_spliced (thn (h pos pins s σ H _ I hq) fun us s1 ⟨xs,H1,I1,r,z,q⟩=>⟨by rw [<- r.length]; exact z,?_⟩)
 have hf:H1 s1.heap.objs.size=none:=I1.hok.fresh (Qk _)
 refine ⟨.ref s1.heap.objs.size,upd H1 s1.heap.objs.size (.lst xs),I1.laid (t':=s1.toks) (fun b u e=>Qc _ e) (Qk _) ?_,rfl,q _ hf⟩
 exact ⟨z,us,0,r,Qq _ rfl⟩
end
abbrev Sp:=List V->Hp->VK->XK->Prop
abbrev CXT:=List Env->Hp->Shared->XK->Value->Shared->Prop
structure Env0 (P:Program) (w:World) (K:PySem.W.Frag) (mg:Str->Option Value) (base:Heap) (A:Around) (outer:List Env) (s:Shared) (H:Hp):Prop where
 frames:A.frames=some outer
 mod:Mod K mg base
 bs:∀ b o,base.get? b=some o->s.heap.get? b=some o/\H b=none
 bsz:base.objs.size<=s.heap.objs.size
 funs:s.heap.FunFrames base outer
 frf:∀ b∈frs outer,H b=none
 hok:HOk P w H s.heap
 bare:AllBare s.gens
def CE (outer:List Env) (P:Program) (w:World) (H:Hp) (s:Shared) (Q:VK) (u:Value) (s':Shared):Prop :=
 ∃ v H',s'.os=s.os/\AllBare s'.gens/\Un (frs outer) [] H H' s.heap s'.heap/\HOk P w H' s'.heap/\bD v u/\Q v H'
def CR (CX:CXT) (outer:List Env) (P:Program) (w:World) (H:Hp) (s:Shared) (Q:VK) (E:XK) (r:Result) (s':Shared):Prop :=
 match r with
 | .ok (.ret u)=>CE outer P w H s Q u s'
 | .ok _=>False
 | .error e=>CX outer H s E e s'
structure FnOk (P:Program) (w:World) (K:PySem.W.Frag) (mg:Str->Option Value) (base:Heap) (CX:CXT) (k:Nat) (f:Addr) (fd:FuncData) (ps:List Str) (sp:Sp):Prop where
 len:∀ vs H Q E,sp vs H Q E->vs.length=ps.length
 run:∀ (A:Around) (outer:List Env) (s:Shared) (H:Hp) (args:Args) (us:List Value) (vs:List V) (Q:VK) (E:XK),Room k A->Env0 P w K mg base A outer s H->BindsTo s fd args (ps.zip us)->bA vs us->sp vs H Q E ->
  codeAny (model P w) A (.call (.ref f) args) (CR CX outer P w H s Q E) s
theorem FnOk.mono {P:Program} {w:World} {K:PySem.W.Frag} {mg:Str->Option Value} {base:Heap} {CX:CXT} {j k:Nat} {f:Addr} {fd:FuncData} {ps:List Str} {sp:Sp} (F:FnOk P w K mg base CX j f fd ps sp) (h:j<=k) :
  FnOk P w K mg base CX k f fd ps sp:=⟨F.len,fun A outer s H args us vs Q E hr=>F.run A outer s H args us vs Q E (hr.mono h)⟩
theorem FnOk.imp {P:Program} {w:World} {K:PySem.W.Frag} {mg:Str->Option Value} {base:Heap} {CX:CXT} {k:Nat} {f:Addr} {fd:FuncData} {ps:List Str} {sp sp':Sp} (F:FnOk P w K mg base CX k f fd ps sp)
  (h:∀ vs H Q E,sp' vs H Q E->sp vs H Q E):FnOk P w K mg base CX k f fd ps sp' :=
 ⟨fun vs H Q E q=>F.len vs H Q E (h _ _ _ _ q),fun A outer s H args us vs Q E hr he hb hv hs=>F.run A outer s H args us vs Q E hr he hb hv (h _ _ _ _ hs)⟩
theorem Env0.in1 {P:Program} {w:World} {K:PySem.W.Frag} {mg:Str->Option Value} {base:Heap} {A:Around} {outer:List Env} {s:Shared} {H:Hp} (e:Env0 P w K mg base A outer s H) :
  Env0 P w K mg base A.in1 outer s H:=⟨e.frames,e.mod,e.bs,e.bsz,e.funs,e.frf,e.hok,e.bare⟩
section
variable {X:Cx} {pins:List (Addr×Obj)} {σ:St} {H:Hp} {s s':Shared}
theorem Inv.env0 (I:Inv X pins σ H s):Env0 X.prog X.w X.K X.mg X.base X.A X.stack s H :=
 ⟨I.ok.frames,I.ok.mod,I.bs,Qv I.ok.bsz I.sz,I.stack,I.stkFree,I.hok,I.bare⟩
theorem Inv.after {Q:VK} {u:Value} (I:Inv X pins σ H s) (h:CE X.stack X.prog X.w H s Q u s'):EP X pins σ Q u s':=by
 obtain ⟨v,H',os,bare,un,hok,r,q⟩:=h
 obtain ⟨hh,g,d,t,os'⟩:=s'
 obtain rfl:os'=s.os:=os
 exact ⟨v,H',I.call (h':=hh) (g':=g) (d':=d) (t':=t) (ch:=[]) un hok bare (fun b z=>absurd z (by simp)),r,q⟩
end
def aEh (sp:Sp) (dvs:List V) (E:XK) (t:TA):TE:=fun σ H Q=>t σ H fun vs H1=>sp (vs++dvs) H1 Q E
def tE (K:PySem.W.Frag) (fd:FuncData) (ps:List Str) (ds:List Value):Prop :=
 ∀ (s:Shared) (us:List Value),K.In s.heap->(us++ds).length=ps.length->BindsTo s fd ⟨us,[]⟩ (ps.zip (us++ds))
theorem tE.all {K:PySem.W.Frag} {fd:FuncData} {ps:List Str} (h:∀ us:List Value,us.length=ps.length->bindArgs fd ⟨us,[]⟩=pure (ps.zip us)):tE K fd ps []:=fun s us _ hl=>by
 rw [Xh] at hl ⊢
 exact .of_eq (h us hl)
def xY (CX:CXT) (X:Cx) (E:XK):Prop:=∀ (pins:List (Addr×Obj)) (σ:St) (H:Hp) (s:Shared) (e:Value) (s':Shared),Inv X pins σ H s->CX X.stack H s E e s'->X.xe e s'
section
variable {X:Cx} {CX:CXT} {k:Nat} {f C:Addr} {fd:FuncData} {ps:List Str} {sp:Sp} {dvs:List V} {ds:List Value} {E:XK} {x m:Str} {p pos apos:Pos} {e o:Expr} {es:List Expr} {ta:TE} {t:TA}
theorem aES {pins:List (Addr×Obj)} {σ:St} {H:Hp} {s:Shared} {Q:VK} {us:List Value} {vs:List V} (F:FnOk X.prog X.w X.K X.mg X.base CX k f fd ps sp) (hr:Room k X.A) (hb:tE X.K fd ps ds) (hd:bA dvs ds) (hx:xY CX X E)
  (I:Inv X pins σ H s) (r:bA vs us) (h:sp (vs++dvs) H Q E):wpAny (model X.prog X.w) X.A (call (.ref f) us) (EP X pins σ Q) X.xe s:=by
 have r2:bA (vs++dvs) (us++ds):=r.append hd
 have hl:(us++ds).length=ps.length:=by rw [<- r2.length]; exact F.len _ _ _ _ h
 refine wpAny_call (codeAny_mono (F.run X.A X.stack s H ⟨us,[]⟩ (us++ds) (vs++dvs) Q E hr I.env0 (hb s us I.kIn hl) r2 h) fun r s' hq=>?_)
 cases r with
 | error e=>exact hx pins σ H s e s' I hq
 | ok fl =>
  cases fl with
  | ret u=>exact I.after hq
  | next=>exact False.elim hq
  | brk=>exact False.elim hq
  | cont=>exact False.elim hq
theorem aDb (F:FnOk X.prog X.w X.K X.mg X.base CX k f fd ps sp) (hr:Room k X.A) (hg:Gl X x) (hm:X.mg x=some (.ref f)) (hk:PySem.W.keepIn X.K (.ref f)=true) (hb:tE X.K fd ps ds) (hd:bA dvs ds) (hx:xY CX X E)
  (ha:PA X (e::es) t) (hdb:(x==("__debug__" : Str))=false:=by decide) (he:starEach (e::es) X.env=(false,eval e X.env)::starEach es X.env:=by rfl) (hpl:(backTo pos (starEach es X.env)).any (·.1)=false:=by rfl) :
  PE X (.Call (.Name x p) (e::es) [] pos) (aEh sp dvs E t):=by
 intro pins s σ H Q I h
 refine wpAny_Call_Name_kw (zJ I hg hm ?_ hdb)
 refine PySem.W.callWith_K (h₀:=X.base) I.ok.mod.kin hk (thn (ha pos pins s σ H _ I h) fun us s1 ⟨vs,H1,I1,r,q⟩=>⟨I1.kIn,?_⟩) he hpl
 exact aES F hr hb hd hx I1 r q
structure Mk (K:PySem.W.Frag) (C f:Addr):Prop where
 makes:PySem.W.makesIn K C=true
 init:PySem.W.findIn K (.ref C) "__init__" = some (some (.ref f))
 fn:PySem.W.isFn K (.ref f)=true
 kp:PySem.W.keepIn K (.ref C)=true
end
section
variable {X:Cx} {CX:CXT} {k:Nat} {f C:Addr} {fd:FuncData} {ps ks:List Str} {sp:Sp} {E:XK} {x m:Str} {p pos apos kpos:Pos} {e o:Expr} {es:List Expr} {kws:List Keyword} {te ta:TE} {t tk:TA} {nm:Option Str}
structure KBinds (K:PySem.W.Frag) (fd:FuncData) (ps ks:List Str) (g:List Value->List Value->List Value) (gV:List V->List V->List V):Prop where
 to:∀ (s:Shared) (us ws:List Value),K.In s.heap->(g us ws).length=ps.length->BindsTo s fd ⟨us,ks.zip ws⟩ (ps.zip (g us ws))
 rel:∀ {vs:List V} {us:List Value} {zs:List V} {ws:List Value},bA vs us->bA zs ws->bA (gV vs zs) (g us ws)
variable {g:List Value->List Value->List Value} {gV:List V->List V->List V}
end
structure FnScope (N P:List Str) (sc:Scope):Prop where
 kind:sc.kind=.function
 co:sc.isCoroutine=false
 gen:sc.isGenerator=false
 nd:N.Nodup
 pre:N.take P.length=P
 par:∀ x∈P,sc.names.lookup x=some .local∨sc.names.lookup x=some .cell
 nofree:∀ y∈sc.names,y.2≠.free
theorem tF {kindOf:Str->Option NameKind} {x:Str}:∀ {binds:List (Str×Value)} {m:Str->Option Value},(∀ v,(x,v)∉binds)->bindL kindOf binds m x=m x
 | [],_,_=>rfl
 | (n,v)::r,m,h=>by
  unfold bindL
  rw [tF fun w hw=>h w (Ql _ hw)]
  split
  ·have:x≠n:=by rintro rfl; exact h v Qg
   simp [this]
  ·rfl
theorem tG {kindOf:Str->Option NameKind} {x:Str}:∀ {binds:List (Str×Value)} {m:Str->Option Value},(∀ v,(x,v)∉binds)->bindC kindOf binds m x=m x
 | [],_,_=>rfl
 | (n,v)::r,m,h=>by
  unfold bindC
  rw [tG fun w hw=>h w (Ql _ hw)]
  split
  ·rfl
  ·have:x≠n:=by rintro rfl; exact h v Qg
   simp [this]
theorem tH {kindOf:Str->Option NameKind} {x:Str} {v:Value}:∀ {P:List Str} {vs:List Value} {i:Nat} {m:Str->Option Value},P.Nodup->P[i]?=some x->vs[i]?=some v->kindOf x=some .local ->
  bindL kindOf (P.zip vs) m x=some v
 | [],_,_,_,_,h,_,_=>by simp at h
 | _::_,[],_,_,_,_,h,_=>by simp at h
 | p::P,w::vs,0,m,nd,h1,h2,hk=>by
  simp at h1 h2; subst h1; subst h2
  show bindL kindOf ((p,w)::P.zip vs) m p=_
  unfold bindL
  rw [tF fun v hv=>(Xa.mp nd).1 (Yo hv).1,if_pos hk]
  simp
 | p::P,w::vs,i+1,m,nd,h1,h2,hk=>by
  show bindL kindOf ((p,w)::P.zip vs) m x=_
  unfold bindL
  exact tH (i:=i) (Xa.mp nd).2 (by simpa using h1) (by simpa using h2) hk
theorem tI {kindOf:Str->Option NameKind} {x:Str} {v:Value}:∀ {P:List Str} {vs:List Value} {i:Nat} {m:Str->Option Value},P.Nodup->P[i]?=some x->vs[i]?=some v->kindOf x≠some .local ->
  bindC kindOf (P.zip vs) m x=some v
 | [],_,_,_,_,h,_,_=>by simp at h
 | _::_,[],_,_,_,_,h,_=>by simp at h
 | p::P,w::vs,0,m,nd,h1,h2,hk=>by
  simp at h1 h2; subst h1; subst h2
  show bindC kindOf ((p,w)::P.zip vs) m p=_
  unfold bindC
  rw [tG fun v hv=>(Xa.mp nd).1 (Yo hv).1,if_neg hk]
  simp
 | p::P,w::vs,i+1,m,nd,h1,h2,hk=>by
  show bindC kindOf ((p,w)::P.zip vs) m x=_
  unfold bindC
  exact tI (i:=i) (Xa.mp nd).2 (by simpa using h1) (by simpa using h2) hk
def start (N:List Str) (vs:List V):St:=vs.map some++List.replicate (N.length - vs.length) none
def xZ (CX:CXT) (P:Program) (w:World) (K:PySem.W.Frag) (mg:Str->Option Value) (base:Heap) (N:List Str) (qual:Str) (scope:Scope) (f:Addr) (cd:Value) (A:Around) (outer:List Env) (s:Shared) (H:Hp) (E:XK):Cx where
 prog:=P
 w:=w
 K:=K
 mg:=mg
 base:=base
 A:=A.deeper (envOfC qual scope s.heap.objs.size f cd)
 N:=N
 s₀:=s
 H₀:=H
 env:=envOfC qual scope s.heap.objs.size f cd
 outer:=outer
 stack:=envOfC qual scope s.heap.objs.size f cd::outer
 ex:=[]
 calm:=true
 fn:=fun _=>true
 pn:=[]
 xe:=fun e s'=>wpAny (model P w) (A.deeper (envOfC qual scope s.heap.objs.size f cd)) (leaving (envOfC qual scope s.heap.objs.size f cd) e) (fun _ s''=>CX outer H s E e s'') (fun e' s''=>CX outer H s E e' s'') s'
theorem vP {sc:Scope} {n:Nat} {x:Str} (h:sc.names.lookup x=some .cell):∃ c,(cellsFrom n sc.names []).lookup x=some c:=by
 have q:=PySem.W.cellsFrom_some sc.names n [] (.inl h)
 exact Wc.mp q
theorem aAF {CX:CXT} {P:Program} {w:World} {K:PySem.W.Frag} {mg:Str->Option Value} {base:Heap} {N ps:List Str} {qual:Str} {scope:Scope} {f:Addr} {cd:Value} {A:Around} {outer:List Env} {s s1:Shared} {H:Hp} {E:XK} {us:List Value} {vs:List V}
  (S:FnScope N ps scope) (hd:A.handled=none) (e0:Env0 P w K mg base A outer s H) (hl:vs.length=ps.length) (r:bA vs us)
  (x:InCallC s s.heap.objs.size (bindL (envOfC qual scope s.heap.objs.size f cd).kindOf (ps.zip us) fun _=>none) (cellsFrom (s.heap.objs.size+1) scope.names []) (bindC (envOfC qual scope s.heap.objs.size f cd).kindOf (ps.zip us) fun _=>none) s1) :
  Inv (xZ CX P w K mg base N qual scope f cd A outer s H E) [] (start N vs) H s1:=by
 have hpl:ps.length<=N.length:=by have:=congrArg Yp S.pre; rw [Jk] at this; omega
 obtain ⟨h1,tk,rfl,hk⟩:=x.done
 have noA:∀ b:Addr,b∉(xZ CX P w K mg base N qual scope f cd A outer s H E).ex:=fun b z=>absurd (show b∈([]:List Addr) from z) (by simp)
 refine ⟨⟨e0.mod,S.kind,rfl,rfl,Qk _,fun y z c h1 h2=>?_,fun y hy=>?_,fun y c _ h=>?_,fun _=>hd,Around.frames_deeper e0.frames,.inr ⟨rfl,rfl⟩,fun b z=>absurd z (noA b),e0.bs,e0.bsz,fun b _ _=>noA b,fun b z=>absurd z (noA b),e0.funs,e0.frf⟩,
  rfl,e0.bare,Un.kept hk,⟨_,x.toInCall.ns,fun i y v h1 h2 h3=>?_⟩,fun y c h=>⟨_,x.cell y c h⟩,e0.hok.fresh (Qk _),fun y c h=>?_,fun p hp=>absurd (show p∈([]:List (Addr×Obj)) from hp) (by simp),e0.hok.kept hk,?_⟩
 ·exact name_of_addr x.apart (PySem.mem_of_lookup h1) (PySem.mem_of_lookup h2)
 ·have hy:scope.names.lookup y=some .cell∨scope.names.lookup y=some .free:=hy
  rcases hy with hy | hy
  ·exact vP hy
  ·exact absurd rfl (S.nofree _ (PySem.mem_of_lookup hy))
 ·exact Zo (x.above y c (PySem.mem_of_lookup h))
 ·have hi:i < vs.length:=by
   unfold start at h2
   by_cases hi:i < vs.length
   ·exact hi
   ·rw [Jh (by simpa using hi)] at h2
    rw [Xp] at h2
    split at h2 <;> cases h2
  have ha:vs[i]?=some v:=by
   unfold start at h2
   rw [Jc (by simpa using hi),Qe] at h2
   cases e:vs[i]? with
   | none=>rw [e] at h2; cases h2
   | some a=>rw [e] at h2; cases h2; rfl
  obtain ⟨u,hu,rv⟩:=r.get ha
  have hp:ps[i]?=some y:=by
   rw [<- S.pre,List.getElem?_take_of_lt (by omega)]; exact h1
  have ndP:ps.Nodup:=by rw [<- S.pre]; exact S.nd.sublist (Wd _ _)
  refine ⟨u,rv,?_⟩
  rcases S.par y (Qh hp) with k | k
  ·exact .inl ⟨k,tH ndP hp hu k⟩
  ·obtain ⟨c,e⟩:=vP (n:=s.heap.objs.size+1) k
   refine .inr ⟨.inl k,c,e,?_⟩
   have q:=x.cell y c e
   rw [tI ndP hp hu (by show scope.names.lookup y≠_; rw [k]; decide)] at q
   exact q
 ·exact e0.hok.fresh (Zo (x.above y c (PySem.mem_of_lookup h)))
 ·unfold start
  show _=N.length
  rw [Qr,Qa,Xi]
  omega
theorem aEi {CX:CXT} {P:Program} {w:World} {K:PySem.W.Frag} {mg:Str->Option Value} {base:Heap} {k:Nat} {f:Addr} {name qual:Str} {params:Arguments} {body:List Stmt} {scope:Scope} {dV kV doc pm cdv ct oc:Value} {an od:Option Addr}
  {osl:Array (Option Value)} {N ps:List Str} {sp:Sp} (lk:K.lookup f=some ⟨oc,od,.func (PySem.W.fnOf name qual params body scope dV kV doc pm an cdv ct),osl⟩) (hcd:PySem.W.codeIn K cdv qual=true) (S:FnScope N ps scope)
  (len:∀ vs H Q E,sp vs H Q E->vs.length=ps.length)
  (hbody:∀ (A:Around) (outer:List Env) (s:Shared) (H:Hp) (vs:List V) (Q:VK) (E:XK),Room k (A.deeper (envOfC qual scope s.heap.objs.size f cdv))->sp vs H Q E ->
   ∃ t,PSs (xZ CX P w K mg base N qual scope f cdv A outer s H E) body t/\t { nx:=fun _ H'=>Q .non H',rt:=Q } (start N vs) H) :
  FnOk P w K mg base CX (k+1) f (PySem.W.fnOf name qual params body scope dV kV doc pm an cdv ct) ps sp:=by
 refine ⟨len,fun A outer s H args us vs Q E hr e0 hb r hsp=>?_⟩
 have hl:=len _ _ _ _ hsp
 have KX:K.In s.heap:=e0.mod.kin.keeps fun b o e=>(e0.bs b o e).1
 have lim:s.heap.NoLimit:=e0.mod.nolimit.keeps fun b o e=>(e0.bs b o e).1
 have hkind:∀ y∈ps.zip us,scope.names.lookup y.1=some .local∨(scope.names.lookup y.1=some .cell/\((cellsFrom (s.heap.objs.size+1) scope.names []).lookup y.1).isSome=true):=fun ⟨n,v⟩ hy=>by
  rcases S.par n (Yo hy).1 with q | q
  ·exact .inl q
  ·exact .inr ⟨q,PySem.W.cellsFrom_some _ _ _ (.inl q)⟩
 refine codeAny_call_function hr.depth (KX _ _ lk) rfl S.co S.gen rfl (PySem.W.codeRec_of KX hcd) (hb _ _ _ _ ?_)
 refine wpAny_newFunctionEnv_cells S.kind hkind fun env he s1 x=>?_
 subst he
 refine ⟨lim.keeps x.toInCall.keep,codeAny_func ?_⟩
 obtain ⟨t,ht,hq⟩:=hbody A outer s H vs Q E (hr.deeper _) hsp
 have I:Inv (xZ CX P w K mg base N qual scope f cdv A outer s H E) [] (start N vs) H s1:=aAF S hr.hd e0 hl r x
 refine wpAny_mono (ht [] s1 (start N vs) H _ I hq) (fun fl s' hs=>?_) fun e s' hs=>hs
 have fin:∀ {σ':St} {H':Hp} {v:V} {u:Value},Inv (xZ CX P w K mg base N qual scope f cdv A outer s H E) [] σ' H' s'->bD v u->Q v H'->CE outer P w H s Q u s' :=
  fun {σ' H' v u} J rv q=>⟨v,H',J.os,J.bare,J.base,J.hok,rv,q⟩
 cases fl with
 | ret u =>
  obtain ⟨v,σ',H',J,rv,q⟩:=hs
  exact fin J rv q
 | next =>
  obtain ⟨σ',H',J,q⟩:=hs
  exact fin (v:=V.non) (u:=Value.none) J rfl q
 | brk =>
  obtain ⟨_,_,_,q⟩:=hs
  exact False.elim q
 | cont =>
  obtain ⟨_,_,_,q⟩:=hs
  exact False.elim q
section
variable {X:Cx} {x:Str} {p pos:Pos} {e:Expr} {es:List Expr} {t:TA} {id T:String} {r:List V->Hp->VK->Prop}
def tCB (r:List V->Hp->VK->Prop) (t:TA):TE:=fun σ H Q=>t σ H fun vs H1=>r vs H1 Q
theorem aQ (hc:fY X (.builtin id) r) (hg:Gl X x) (hm:X.mg x=none) (hv:bootBuiltins x=some (.builtin id)) (ha:PA X (e::es) t) (hn:x ≠ "__name__" := by decide) (hdb:(x==("__debug__" : Str))=false:=by decide)
  (he:starEach (e::es) X.env=(false,eval e X.env)::starEach es X.env:=by rfl) (hpl:(backTo pos (starEach es X.env)).any (·.1)=false:=by rfl):PE X (.Call (.Name x p) (e::es) [] pos) (tCB r t):=by
 intro pins s σ H Q I h
 refine wpAny_Call_Name_kw (kF I hg hm hv ?_ hn hdb)
 refine PyProof.Rows.callWith_builtin1 (thn (ha pos pins s σ H _ I h) fun us s1 hx9=>?_) he hpl
 obtain ⟨vs,H1,I1,r1,q1⟩:=hx9
 exact hc pins s1 σ H1 vs us Q I1 r1 q1
theorem dY (hc:fY X (.type T) r) (hg:Gl X x) (hm:X.mg x=none) (hv:bootBuiltins x=some (.type T)) (ha:PA X (e::es) t) (hn:x ≠ "__name__" := by decide) (hdb:(x==("__debug__" : Str))=false:=by decide)
  (he:starEach (e::es) X.env=(false,eval e X.env)::starEach es X.env:=by rfl) (hpl:(backTo pos (starEach es X.env)).any (·.1)=false:=by rfl):PE X (.Call (.Name x p) (e::es) [] pos) (tCB r t):=by
 intro pins s σ H Q I h
 refine wpAny_Call_Name_kw (kF I hg hm hv ?_ hn hdb)
 refine PyProof.Rows.callWith_type1 (thn (ha pos pins s σ H _ I h) fun us s1 hx9=>?_) he hpl
 obtain ⟨vs,H1,I1,r1,q1⟩:=hx9
 exact hc pins s1 σ H1 vs us Q I1 r1 q1
end
end L2
namespace HT
open PySem PyProof.Rows
section
open PySem.SeqAt
open PySem.AutoSeq1 (wpAny_loadPart')
open PySem.MeetsSeq PySem.MeetsSeq2 PySem.MeetsSeq3
end
section
variable {prog:Program} {w:World} {A:Around} {E:Value->Shared->Prop} {s:Shared}
theorem cat_tup {t b:Addr} {vs ws:List Value} {Q:Value->Shared->Prop} (ht:IsTup s.heap t vs.toArray) (hb:IsTup s.heap b ws.toArray) (hv:vs≠[])
  (h1:ws = []->Q (.ref t) s) (h2:ws≠[]->Q (.ref s.heap.objs.size) { s with heap:=s.heap.push { cls:=.type "tuple",data:=.seq (vs++ws).toArray } })
  (hsz:vs.length+ws.length<=sizeLine):wpAny (model prog w) A (binaryOp .Add (.ref t) (.ref b)) Q E s:=by
 obtain ⟨⟨cls,dd,data,sl⟩,ho,hc,n,hd⟩:=id ht
 obtain ⟨⟨cls2,dd2,data2,sl2⟩,ho2,hc2,n2,hd2⟩:=id hb
 simp only at hc hd hc2 hd2
 subst hc hd hc2 hd2
 have e:vs.toArray++ws.toArray=(vs++ws).toArray:=by simp
 by_cases hw:ws = []
 ·exact concat_meets ⟨_,ho,rfl⟩ ⟨_,ho2,rfl⟩ noFill_tuple_add seq_tuple_add PySem.F.slot_tuple_add PySem.F.entry_tuple_add (PySem.F.args_tuple_add_2 _ _)
   (tuple_addW1 t b vs.toArray ws.toArray n n2 dd dd2 sl sl2 (by simpa using hv) (by simp [hw])) ⟨ho,ho2,h1 hw⟩
 ·refine concat_meets ⟨_,ho,rfl⟩ ⟨_,ho2,rfl⟩ noFill_tuple_add seq_tuple_add PySem.F.slot_tuple_add PySem.F.entry_tuple_add (PySem.F.args_tuple_add_2 _ _)
   (tuple_addW2 t b vs.toArray ws.toArray n n2 dd dd2 sl sl2 (by simpa using hv) (by simpa using hw) (by rw [Qs,Qs]; exact hsz)) ⟨ho,ho2,?_⟩
  rw [e]
  exact h2 hw
def sIx (n d:Nat):Option Int->Nat
 | none=>d
 | some v=>if v < 0 then (v+(n:Int)).toNat else min v.toNat n
theorem sIx_none (n d:Nat):sIx n d none=d:=rfl
theorem sIx_nat (n d k:Nat):sIx n d (some (k:Int))=min k n:=by
 show (if (k:Int) < 0 then ((k:Int)+(n:Int)).toNat else min (k:Int).toNat n)=min k n
 rw [if_neg (by omega),We]
theorem slicePart_ {v:Value} {o:Option Int} {Q:Option Int->Shared->Prop} (p:IsPart v o) (h:Q o s):wpAny (model prog w) A (Builtin.Slice.slicePartIndex v) Q E s:=by
 cases p with
 | none=>exact slicePart_none h
 | int i t=>exact slicePart_int h
theorem pick_gen (xs:Array Value) (i k:Nat):((List.range k).filterMap fun (m:Nat)=>xs[((i:Int)+(m:Int)*1).toNat]?).toArray=((xs.toList.drop i).take k).toArray:=by
 have e:(fun (m:Nat)=>xs[((i:Int)+(m:Int)*1).toNat]?)=fun m=>xs[i+m]?:=by
  funext m
  have:((i:Int)+(m:Int)*1).toNat=i+m:=by omega
  rw [this]
 rw [e]
 have:=pick_run xs i k
 rw [Qae] at this
 have e2:((fun x=>xs[x]?) ∘ fun x=>i+x)=fun m=>xs[i+m]?:=rfl
 rw [e2] at this
 rw [this]
end
end HT
namespace L2
open PySem PySem.Spec PyProof.Rows
abbrev TO:=St->Hp->(Option Int->Hp->Prop)->Prop
def PO (X:Cx) (e:Option Expr) (t:TO):Prop :=
 ∀ (pins:List (Addr×Obj)) (s:Shared) (σ:St) (H:Hp) (Q:Option Int->Hp->Prop),Inv X pins σ H s->t σ H Q ->
  wpAny (model X.prog X.w) X.A (evalPart e X.env) (fun u s'=>∃ o H',Inv X pins σ H' s'/\IsPart u o/\Q o H') X.xe s
def aDc:TO:=fun _ H Q=>Q none H
def aFJ (t:TE):TO:=fun σ H Q=>t σ H fun x H1=>∃ i,x=.int i/\Q (some i) H1
theorem kG {ns:List Int}:∀ {us:List Value},bA (ns.map V.int) us->IntsAre us ns:=by
 induction ns with
 | nil=>intro us r; rw [Qah] at r; cases r; exact .nil
 | cons n ns ih =>
  intro us r
  rw [Jg] at r
  cases r with
  | cons r1 r2 =>
   obtain ⟨t,e⟩:=r1
   subst e
   exact .cons n t (ih r2)
section
variable {X:Cx} {e:Expr} {te:TE} {lo hi:Option Expr} {tl th:TO} {pos p2:Pos}
theorem aDd:PO X none aDc:=by
 intro pins s σ H Q I h
 rw [evalPart_none]
 exact wpAny_pure ⟨none,H,I,.none,h⟩
theorem aDe (h:PE X e te):PO X (some e) (aFJ te):=by
 intro pins s σ H Q I hw
 rw [evalPart_some]
 refine thn (h pins s σ H _ I hw) fun u s1 hx9=>?_
 obtain ⟨x,H1,I1,r1,q1⟩:=hx9
 obtain ⟨i,rfl,q⟩:=q1
 obtain ⟨t,rfl⟩:=r1
 exact ⟨some i,H1,I1,.int i t,q⟩
def SlR (X:Cx) (r:V->Option Int->Option Int->Hp->VK->Prop):Prop :=
 ∀ (pins:List (Addr×Obj)) (s:Shared) (σ:St) (H:Hp) (x:V) (v vl vu:Value) (lo hi:Option Int) (sl:Addr) (Q:VK),Inv X pins σ H s->bD x v->s.heap.IsSliceOf sl vl vu .none->IsPart vl lo->IsPart vu hi->r x lo hi H Q ->
  ∃ T id,typeLookup (.type T) "__getitem__" = pure (some (.builtin id))/\s.TypeIs v T/\wpAny (model X.prog X.w) X.A (getItem v (.ref sl)) (EP X pins σ Q) X.xe s
def tSl (r:V->Option Int->Option Int->Hp->VK->Prop) (te:TE) (tl th:TO):TE:=fun σ H Q=>te σ H fun x H1=>tl σ H1 fun l H2=>th σ H2 fun u H3=>r x l u H3 Q
theorem aBA {r:V->Option Int->Option Int->Hp->VK->Prop} (hr:SlR X r) (he:PE X e te) (hl:PO X lo tl) (hu:PO X hi th):PE X (.Subscript e (.Slice lo hi none p2) pos) (tSl r te tl th):=by
 intro pins s σ H Q I h
 refine Subscript_ (thn (he pins s σ H _ I h) fun v s1 hx9=>?_)
 obtain ⟨x,H1,I1,r1,q1⟩:=hx9
 refine wpAny_Slice (thn (hl pins s1 σ H1 _ I1 q1) fun vl s2 ⟨l,H2,I2,pl,q2⟩=>thn (hu pins s2 σ H2 _ I2 q2) fun vu s3 hx9=>?_)
 obtain ⟨u,H3,I3,pu,q3⟩:=hx9
 rw [evalPart_none]
 refine wpAny_pure ?_
 have I4:Inv X pins σ H3 { s3 with heap:=s3.heap.push { cls:=.type "slice",data:=.fields #[vl,vu,.none] } }:=I3.kept (t':=s3.toks) fun b ob q=>Qc _ q
 obtain ⟨T,id,hT,ht,hg⟩:=hr pins { s3 with heap:=s3.heap.push { cls:=.type "slice",data:=.fields #[vl,vu,.none] } } σ H3 x v vl vu l u s3.heap.objs.size Q I4 r1 (Heap.IsSliceOf.new ..) pl pu q3
 show wpAny (model X.prog X.w) X.A (subscriptTail e (.Slice lo hi none p2) v (.ref s3.heap.objs.size)) (EP X pins σ Q) X.xe { s3 with heap:=s3.heap.push { cls:=.type "slice",data:=.fields #[vl,vu,.none] } }
 exact tail_any (ops:=[.ref s3.heap.objs.size,v]) ht hT hg (by with_unfolding_all rfl)
def yA (xs:List V) (lo hi:Option Int):List V:=(xs.drop (HT.sIx xs.length 0 lo)).take (HT.sIx xs.length xs.length hi - HT.sIx xs.length 0 lo)
theorem vQ (xs:List V) (lo hi:Option Int):(yA xs lo hi).length<=xs.length:=by
 unfold yA
 rw [Jk,Ym]
 exact Qv (Nat.min_le_right _ _) (Nat.sub_le _ _)
def aFK (K:PySem.W.Frag):R2:=fun x y H Q=>∃ a b xs ys,x=.ref a/\y=.ref b/\SqT K H a xs/\SqT K H b ys/\xs≠[]/\xs.length+ys.length<=sizeLine /\
 (ys = []->Q (.ref a) H)/\(ys≠[]->∀ p,H p=none->Q (.ref p) (upd H p (.tup (xs++ys))))
theorem bA.nil_iff {xs:List V} {us:List Value} (r:bA xs us):us = []↔xs = []:=by
 cases r with
 | nil=>simp
 | cons _ _=>simp
theorem aDf:OpR X (binaryOp .Add) (aFK X.K):=by
 intro pins s σ H x y v u Q I rx ry h
 obtain ⟨a,b,xs,ys,rfl,rfl,ha,hb,hx,hz,q1,q2⟩:=h
 cases rx
 cases ry
 obtain ⟨its,r1,p1,_⟩:=I.tuple ha
 obtain ⟨its2,r2,p2,_⟩:=I.tuple hb
 refine HT.cat_tup p1 p2 (fun z=>hx (r1.nil_iff.mp z)) (fun z=>⟨.ref a,H,I,rfl,q1 (r2.nil_iff.mp z)⟩) (fun z=>?_) (by rw [<- r1.length,<- r2.length]; exact hz)
 refine ⟨.ref s.heap.objs.size,_,I.laid (t':=s.toks) (o:=.tup (xs++ys)) (fun b ob q=>Qc _ q) (Qk _) ?_,rfl,q2 (fun w=>z (r2.nil_iff.mpr w)) _ (I.hok.fresh (Qk _))⟩
 exact ⟨by rw [Qr]; exact hz,_,0,r1.append r2,Qq _ rfl⟩
end
def ixN (n:Nat) (i:Int):Option Nat:=if 0<=i then (if i < n then some i.toNat else none) else if -(n:Int)<=i then some (i+n).toNat else none
def atI {α:Type} (xs:List α) (i:Int):Option α:=(ixN xs.length i).bind fun j=>xs[j]?
theorem zP {n:Nat} {i:Int} {j:Nat} (h:ixN n i=some j):seqIndex? i n=some j/\j < n/\-(n:Int)<=i/\i < n:=by
 unfold ixN at h
 by_cases h0:0<=i
 ·rw [if_pos h0] at h
  by_cases h1:i < n
  ·rw [if_pos h1] at h
   have e:i.toNat=j:=Option.some.inj h
   exact ⟨by rw [seqIndex_of h0 h1,e],by omega,by omega,h1⟩
  ·rw [if_neg h1] at h; cases h
 ·rw [if_neg h0] at h
  by_cases h1:-(n:Int)<=i
  ·rw [if_pos h1] at h
   have e:(i+n).toNat=j:=Option.some.inj h
   exact ⟨by rw [seqIndex_neg (by omega) h1,e],by omega,h1,by omega⟩
  ·rw [if_neg h1] at h; cases h
theorem zQ {α:Type} {xs:List α} {i:Int} {v:α} (h:atI xs i=some v):∃ j,seqIndex? i xs.length=some j/\xs[j]?=some v/\j < xs.length/\-(xs.length:Int)<=i/\i < xs.length:=by
 unfold atI at h
 cases e:ixN xs.length i with
 | none=>rw [e] at h; cases h
 | some j =>
  rw [e] at h
  obtain ⟨h1,h2,h3,h4⟩:=zP e
  exact ⟨j,h1,h,h2,h3,h4⟩
theorem cL {α:Type} {xs:List α} {j:Nat} {v:α} (h:xs[j]?=some v):atI xs (j:Int)=some v:=by
 have hj:j < xs.length:=(Qd.mp h).1
 have e:ixN xs.length (j:Int)=some j:=by
  unfold ixN
  rw [if_pos (by omega),if_pos (by omega)]; simp
 unfold atI; rw [e]; exact h
def aDg (b:Expr):Prop:=∀ o i,subscripted b false o i=operate [o,i] (getItem o i)
def IxR (X:Cx) (r:R2):Prop :=
 ∀ (value slice:Expr) (pins:List (Addr×Obj)) (s:Shared) (σ:St) (H:Hp) (x y:V) (v u:Value) (Q:VK),Inv X pins σ H s->bD x v->bD y u->r x y H Q ->
  subscripted slice false v u=operate [v,u] (getItem v u)->wpAny (model X.prog X.w) X.A (subscriptTail value slice v u) (EP X pins σ Q) X.xe s
def MtR (X:Cx) (id:String) (r:V->List V->Hp->VK->Prop):Prop :=
 ∀ (pins:List (Addr×Obj)) (s:Shared) (σ:St) (H:Hp) (x:V) (xs:List V) (v:Value) (us:List Value) (Q:VK),Inv X pins σ H s->bD x v->bA xs us->r x xs H Q ->
  wpAny (model X.prog X.w) X.A (call (.builtin id) (v::us)) (EP X pins σ Q) X.xe s
section
variable {X:Cx} {a b:Expr} {ta tb:TE} {pos:Pos}
theorem aV {r:R2} (hr:IxR X r) (ha:PE X a ta) (hb:PE X b tb) (hs:aDg b):PE X (.Subscript a b pos) (tOp r ta tb):=by
 intro pins s σ H Q I h
 exact Subscript_ (aEN ha hb I h fun v u s2 x y H2 I2 rx ry q=>hr a b pins s2 σ H2 x y v u Q I2 rx ry q (hs _ _))
def aFL (K:PySem.W.Frag):R2:=fun x y H Q=>∃ p xs i v,x=.ref p/\y=.int i/\SqL K H p xs/\atI xs i=some v/\Q v H
def aFM (K:PySem.W.Frag):R2:=fun x y H Q=>∃ p xs i v,x=.ref p/\y=.int i/\SqT K H p xs/\atI xs i=some v/\Q v H
theorem dG:IxR X (aFL X.K):=by
 intro value slice pins s σ H x y v u Q I rx ry h hs
 obtain ⟨p,xs,i,z,rfl,rfl,hq,he,q⟩:=h
 cases rx
 obtain ⟨t,rfl⟩:=ry
 obtain ⟨its,r,pl,hz⟩:=I.list hq
 obtain ⟨j,h1,h2,h3,h4,h5⟩:=zQ he
 obtain ⟨w,ew,rw'⟩:=r.get h2
 have hl:=r.length
 have hn:=pR
 have fin:EP X pins σ Q w s:=⟨z,H,I,rw',q⟩
 by_cases h0:0<=i
 ·have hj:i.toNat=j:=by
   rw [seqIndex_of h0 h5] at h1
   exact Option.some.inj h1
  exact item_listR pl.isList h0 (by omega) (by rw [hj]; simpa using ew) fin hs
 ·have hj:(i+(its.toArray.size:Int)).toNat=j:=by
   rw [seqIndex_neg (by omega) h4] at h1
   rw [Qs,<- hl]
   exact Option.some.inj h1
  exact subscriptTail_builtinR (x:=w) pl.isList.typeIs slot_list_getitem.lookup
   (wpAny_getItem_list_neg (Q:=fun r s'=>r=w/\EP X pins σ Q r s') pl.isList (by omega) (by rw [Qs] <;> omega) (by omega) (by rw [hj]; simpa using ew) ⟨rfl,fin⟩) hs
theorem bB:IxR X (aFM X.K):=by
 intro value slice pins s σ H x y v u Q I rx ry h hs
 obtain ⟨p,xs,i,z,rfl,rfl,hq,he,q⟩:=h
 cases rx
 obtain ⟨t,rfl⟩:=ry
 obtain ⟨its,r,pl,hz⟩:=I.tuple hq
 obtain ⟨j,h1,h2,h3,h4,h5⟩:=zQ he
 obtain ⟨w,ew,rw'⟩:=r.get h2
 have hl:=r.length
 have hn:=pR
 have fin:EP X pins σ Q w s:=⟨z,H,I,rw',q⟩
 exact subscriptTail_builtinR (x:=w) pl.typeIs slot_tuple_getitem.lookup
  (getItem_tuple (j:=j) (Q:=fun r s'=>r=w/\EP X pins σ Q r s') pl (by omega) (by omega) (by rw [Qs,<- hl]; exact h1) (by simpa using ew) ⟨rfl,fin⟩) hs
theorem yB (its:List Value) (n j:Nat) (u:Value):Obj.mapSeq (·.setIfInBounds j u) { cls:=.type "list",data:=.seq its.toArray n }={ cls:=.type "list",data:=.seq (its.set j u).toArray n }:=by
 simp [Obj.mapSeq]
theorem Inv.lst {pins:List (Addr×Obj)} {σ:St} {H:Hp} {s:Shared} {p:Addr} {xs:List V} (I:Inv X pins σ H s) (h:H p=some (.lst xs)) :
  ∃ (its:List Value) (n:Nat),bA xs its/\s.heap.get? p=some { cls:=.type "list",data:=.seq its.toArray n }/\xs.length<=sizeLine:=by
 obtain ⟨z,its,n,r,e⟩:=I.hok p _ h
 exact ⟨its,n,r,e,z⟩
theorem Inv.lstUpd {pins:List (Addr×Obj)} {σ:St} {H:Hp} {s:Shared} {p:Addr} {xs ys:List V} {its its':List Value} {n n':Nat} {f:Obj->Obj} (I:Inv X pins σ H s) (h:H p=some (.lst xs))
  (ho:s.heap.get? p=some { cls:=.type "list",data:=.seq its.toArray n }) (hf:f { cls:=.type "list",data:=.seq its.toArray n }={ cls:=.type "list",data:=.seq its'.toArray n' }) (r:bA ys its') (hz:ys.length<=sizeLine) (t:Nat) :
  Inv X pins σ (upd H p (.lst ys)) { s with heap:=s.heap.update p f,toks:=t }:=by
 have e:(s.heap.update p f).get? p=some { cls:=.type "list",data:=.seq its'.toArray n' }:=by
  rw [Zb f ho (by rw [hf] <;> rfl),hf]
 refine I.write (x:=p) (e:=p) (by rw [h]; trivial) (.inl rfl) (fun b u hb q=>(Xl _ _ (Ne.symm hb)).trans q) ⟨_,e⟩ ?_
 exact ⟨hz,its',n',r,e⟩
def aFN:V->V->V->Hp->(Hp->Prop)->Prop:=fun o i v H Q=>∃ p xs k j,o=.ref p/\i=.int k/\H p=some (.lst xs)/\ixN xs.length k=some j/\Q (upd H p (.lst (xs.set j v)))
theorem mM:aEK X aFN:=by
 intro pins s σ H o i v ov iv u Q I ro ri rv h
 obtain ⟨p,xs,k,j,rfl,rfl,hp,hj,q⟩:=h
 cases ro
 obtain ⟨t,rfl⟩:=ri
 obtain ⟨its,n,r,ho,hz⟩:=I.lst hp
 obtain ⟨h1,h2,h3,h4⟩:=zP hj
 have hl:=r.length
 have hn:=pR
 have I':Inv X pins σ (upd H p (.lst (xs.set j v))) { s with heap:=s.heap.update p (Obj.mapSeq (·.setIfInBounds j u)) } :=
  I.lstUpd hp ho (yB its n j u) (r.set rv j) (by rw [Za]; exact hz) s.toks
 by_cases h0:0<=k
 ·have hk:k.toNat=j:=by
   rw [seqIndex_of h0 h4] at h1
   exact Option.some.inj h1
  exact PySem.W.ki_setAt ho h0 (by omega) (by rw [Qs,<- hl]; exact h4) (by rw [hk]; exact ⟨_,I',q⟩)
 ·have hk:(k+(its.toArray.size:Int)).toNat=j:=by
   rw [seqIndex_neg (by omega) h3] at h1
   rw [Qs,<- hl]
   exact Option.some.inj h1
  exact PySem.W.ki_setBack ho (by omega) (by rw [Qs,<- hl]; exact h3) (by omega) (by rw [hk]; exact ⟨_,I',q⟩)
theorem tZ (lo hi:Option Int) (n:Nat):(sliceBounds lo hi none n).1=((HT.sIx n 0 lo:Nat):Int)/\(sliceBounds lo hi none n).2.1=((HT.sIx n n hi:Nat):Int)/\(sliceBounds lo hi none n).2.2=1:=by
 refine ⟨?_,?_,rfl⟩
 ·cases lo with
  | none=>simp [sliceBounds,HT.sIx]
  | some i =>
   simp only [sliceBounds,HT.sIx,Qam,show (1:Int) > 0 by decide,if_true]
   by_cases h:i < 0
   ·simp only [h,if_true] <;> omega
   ·simp only [h,if_false] <;> omega
 ·cases hi with
  | none=>simp [sliceBounds,HT.sIx]
  | some i =>
   simp only [sliceBounds,HT.sIx,Qam,show (1:Int) > 0 by decide,if_true]
   by_cases h:i < 0
   ·simp only [h,if_true] <;> omega
   ·simp only [h,if_false] <;> omega
theorem sI (its:List Value) (lo hi:Option Int):slicePick its.toArray lo hi none=((its.drop (HT.sIx its.length 0 lo)).take (HT.sIx its.length its.length hi - HT.sIx its.length 0 lo)).toArray:=by
 obtain ⟨h1,h2,h3⟩:=tZ lo hi its.toArray.size
 unfold slicePick
 rw [h1,h2,h3]
 simp only [sliceRange_one,pick_run,Qs] <;> rfl
def aGt (K:PySem.W.Frag):V->Option Int->Option Int->Hp->VK->Prop:=fun x lo hi H Q=>∃ a xs,x=.ref a/\SqL K H a xs/\∀ p,H p=none->Q (.ref p) (upd H p (.lst (yA xs lo hi)))
theorem aDh:SlR X (aGt X.K):=by
 intro pins s σ H x v vl vu lo hi sl Q I rx hs pl pu h
 obtain ⟨a,xs,rfl,hx,q⟩:=h
 cases rx
 obtain ⟨its,r,ht,hz⟩:=I.list hx
 have hlen:=r.length
 refine ⟨"list",_,slot_list_getitem.lookup,ht.isList.typeIs,?_⟩
 refine wpAny_getItem_list_slice ht.isList hs pl pu .none (by simp) ?_ (by rw [Qs] <;> omega)
 rw [sI,<- hlen]
 refine ⟨.ref s.heap.objs.size,_,I.laid (t':=s.toks) (o:=.lst (yA xs lo hi)) (fun b ob q=>Qc _ q) (Qk _) ?_,rfl,q _ (I.hok.fresh (Qk _))⟩
 exact ⟨Qv (vQ xs lo hi) hz,_,0,(r.drop (HT.sIx xs.length 0 lo)).take (HT.sIx xs.length xs.length hi - HT.sIx xs.length 0 lo),Qq _ rfl⟩
def lW:V->Bool
 | .non=>true
 | .bl _=>true
 | .int _=>true
 | .str _=>true
 | _=>false
def eqV:V->V->Bool
 | .non,.non=>true
 | .bl a,.bl b=>a==b
 | .bl a,.int b=>(if a then 1 else 0)==b
 | .int a,.bl b=>a==(if b then 1 else 0)
 | .int a,.int b=>a==b
 | .str a,.str b=>a==b
 | _,_=>false
theorem aET {A:Around} {s:Shared} {y x:V} {u v:Value} (ry:bD y u) (rx:bD x v) (fy:lW y=true) (fx:lW x=true):SeqAt.EqAt A s u v (eqV y x):=by
 cases y with
 | non =>
  cases ry
  cases x with
  | non=>cases rx; exact SeqAt.EqAt.same _
  | bl b=>cases rx; exact SeqAt.EqAt.none_bool b
  | int b=>obtain ⟨t,rfl⟩:=rx; exact SeqAt.EqAt.none_int b t
  | str b=>obtain ⟨t,rfl⟩:=rx; exact SeqAt.EqAt.none_str b t
  | _=>exact absurd (show false=true from fx) Qw
 | bl a =>
  cases ry
  cases x with
  | non=>cases rx; exact SeqAt.EqAt.bool_none a
  | bl b=>cases rx; exact SeqAt.EqAt.bool_bool a b
  | int b=>obtain ⟨t,rfl⟩:=rx; exact SeqAt.EqAt.bool_int a b t
  | str b=>obtain ⟨t,rfl⟩:=rx; exact SeqAt.EqAt.bool_str a b t
  | _=>exact absurd (show false=true from fx) Qw
 | int a =>
  obtain ⟨t',rfl⟩:=ry
  cases x with
  | non=>cases rx; exact SeqAt.EqAt.int_none a t'
  | bl b=>cases rx; exact SeqAt.EqAt.int_bool a t' b
  | int b=>obtain ⟨t,rfl⟩:=rx; exact SeqAt.EqAt.int_int a t' b t
  | str b=>obtain ⟨t,rfl⟩:=rx; exact SeqAt.EqAt.int_str a t' b t
  | _=>exact absurd (show false=true from fx) Qw
 | str a =>
  obtain ⟨t',rfl⟩:=ry
  cases x with
  | non=>cases rx; exact SeqAt.EqAt.str_none a t'
  | bl b=>cases rx; exact SeqAt.EqAt.str_bool a t' b
  | int b=>obtain ⟨t,rfl⟩:=rx; exact SeqAt.EqAt.str_int a t' b t
  | str b=>obtain ⟨t,rfl⟩:=rx; exact SeqAt.EqAt.str_str a t' b t
  | _=>exact absurd (show false=true from fx) Qw
 | _=>exact absurd (show false=true from fy) Qw
def eqU (x:V) (u:Value):Bool:=match u with
 | .none=>eqV .non x
 | .bool b=>eqV (.bl b) x
 | .int i _=>eqV (.int i) x
 | .str z _=>eqV (.str z) x
 | _=>false
theorem aBB {x y:V} {u:Value} (r:bD y u) (f:lW y=true):eqU x u=eqV y x:=by
 cases y with
 | non=>cases r; rfl
 | bl b=>cases r; rfl
 | int i=>obtain ⟨t,rfl⟩:=r; rfl
 | str z=>obtain ⟨t,rfl⟩:=r; rfl
 | _=>exact absurd (show false=true from f) Qw
theorem oW {x:V}:∀ {xs:List V} {us:List Value},bA xs us->xs.all lW=true->us.any (eqU x)=xs.any fun y=>eqV y x
 := by
 intro xs us h
 induction h with
 | nil=>intro _; rfl
 | cons r t ih =>
  intro f
  rw [Yb,Jr] at f
  rw [Yc,Yc,aBB r f.1,ih f.2]
theorem kX {A:Around} {s:Shared} {x:V} {v:Value} (rx:bD x v) (fx:lW x=true):∀ {xs:List V} {us:List Value},bA xs us->xs.all lW=true->∀ u∈us,SeqAt.EqAt A s u v (eqU x u)
 | _,_,.nil,_=>fun u hu=>by cases hu
 | y::xs,u::us,.cons r t,f=>fun u' hu=>by
  rw [Yb,Jr] at f
  rcases Qp.mp hu with rfl | hu
  ·rw [aBB r f.1]; exact aET r rx f.1 fx
  ·exact kX rx fx t f.2 u' hu
def inV (x:V) (xs:List V):Bool:=xs.any fun y=>eqV y x
def rIn (K:PySem.W.Frag) (neg:Bool):R2:=fun x y H Q=>∃ p xs,y=.ref p/\(SqL K H p xs∨SqT K H p xs)/\lW x=true/\xs.all lW=true/\Q (.bl (if neg then !inV x xs else inV x xs)) H
theorem nM:OpR X (compareOp .In) (rIn X.K false):=by
 intro pins s σ H x y v u Q I rx ry h
 obtain ⟨p,xs,rfl,hq,fx,fs,q⟩:=h
 cases ry
 rcases hq with hq | hq
 ·obtain ⟨its,r,pl,hz⟩:=I.list hq
  refine SeqAt.in_listAt (eqU x) pl.isList (fun w hw=>kX rx fx r fs w (by simpa using hw)) ⟨.bl _,H,I,rfl,?_⟩
  rw [show its.toArray.any (eqU x)=its.any (eqU x) by simp,oW r fs]
  exact q
 ·obtain ⟨its,r,pl,hz⟩:=I.tuple hq
  refine SeqAt.in_tupleAt (eqU x) pl (fun w hw=>kX rx fx r fs w (by simpa using hw)) ⟨.bl _,H,I,rfl,?_⟩
  rw [show its.toArray.any (eqU x)=its.any (eqU x) by simp,oW r fs]
  exact q
theorem uA:OpR X (compareOp .NotIn) (rIn X.K true):=by
 intro pins s σ H x y v u Q I rx ry h
 obtain ⟨p,xs,rfl,hq,fx,fs,q⟩:=h
 cases ry
 rcases hq with hq | hq
 ·obtain ⟨its,r,pl,hz⟩:=I.list hq
  refine SeqAt.notIn_listAt (eqU x) pl.isList (fun w hw=>kX rx fx r fs w (by simpa using hw)) ⟨.bl _,H,I,rfl,?_⟩
  rw [show its.toArray.any (eqU x)=its.any (eqU x) by simp,oW r fs]
  exact q
 ·obtain ⟨its,r,pl,hz⟩:=I.tuple hq
  refine SeqAt.notIn_tupleAt (eqU x) pl (fun w hw=>kX rx fx r fs w (by simpa using hw)) ⟨.bl _,H,I,rfl,?_⟩
  rw [show its.toArray.any (eqU x)=its.any (eqU x) by simp,oW r fs]
  exact q
theorem aU:fY X (.builtin "len") (fun xs H Q=>∃ p ys,xs = [.ref p]/\(SqL X.K H p ys∨SqT X.K H p ys)/\Q (.int ys.length) H):=by
 intro pins s σ H xs us Q I r h
 obtain ⟨p,ys,rfl,hq,q⟩:=h
 obtain ⟨u,rfl,rx⟩:=jJ r
 cases rx
 have hn:=pR
 rcases hq with hq | hq
 ·obtain ⟨its,r',pl,hz⟩:=I.list hq
  have hlen:=r'.length
  exact Calls.call_len_list pl.isList (by simp only [Qs] <;> omega) ⟨.int ys.length,H,I.tok _,⟨s.toks+1,by rw [Qs,hlen]⟩,q⟩
 ·obtain ⟨its,r',pl,hz⟩:=I.tuple hq
  have hlen:=r'.length
  exact len_tuple pl (by simp only [Qs] <;> omega) ⟨.int ys.length,H,I.tok _,⟨s.toks+1,by rw [Qs,hlen]⟩,q⟩
theorem eV:fY X (.type "tuple") (fun xs H Q=>∃ p ys,xs = [.ref p]/\((SqL X.K H p ys/\∀ l,H l=none->Q (.ref l) (upd H l (.tup ys)))∨(SqT X.K H p ys/\Q (.ref p) H))):=by
 intro pins s σ H xs us Q I r h
 obtain ⟨p,ys,rfl,h⟩:=h
 obtain ⟨u,rfl,rx⟩:=jJ r
 cases rx
 rcases h with ⟨hq,q⟩ | ⟨hq,q⟩
 ·obtain ⟨its,r',pl,hz⟩:=I.list hq
  have hlen:=r'.length
  refine call_tuple_list pl.isList (fun h' kp=>?_) (by simp only [Qs] <;> omega)
  have I1:Inv X pins σ H { s with heap:=h' }:=I.kept (t':=s.toks) kp
  have I2:Inv X pins σ (upd H h'.objs.size (.tup ys)) { s with heap:=h'.push { cls:=.type "tuple",data:=.seq its.toArray } } :=
   I1.laid (t':=s.toks) (fun b o e=>Qc _ e) (Qk _) (show bW X.prog X.w _ _ _ (.tup ys) from ⟨hz,its,0,r',Qq _ rfl⟩)
  exact ⟨.ref h'.objs.size,_,I2,rfl,q _ (I1.hok.fresh (Qk _))⟩
 ·obtain ⟨its,r',pl,hz⟩:=I.tuple hq
  exact call_tuple_same pl ⟨.ref p,H,I,rfl,q⟩
def tyV (K:PySem.W.Frag) (T:String) (x:V) (H:Hp):Prop:=match x with
 | .str _=>T = "str"
 | .int _=>T = "int"
 | .ref p => (T = "list" /\ ∃ xs, SqL K H p xs) ∨ (T = "tuple" /\ ∃ xs, SqT K H p xs) ∨
     (T = "dict" /\ ((∃ kvs,H p=some (.dK kvs))∨∃ kvs,H p=some (.dT kvs)))∨(T = "set" /\ ∃ S n,H p=some (.set S n))
 | _=>False
theorem aEU {pins:List (Addr×Obj)} {σ:St} {H:Hp} {s:Shared} {T:String} {x:V} {v:Value} (I:Inv X pins σ H s) (r:bD x v) (ty:tyV X.K T x H) :
  s.TypeIs v T/\∀ a,v=.ref a->∃ ob,s.heap.get? a=some ob/\ob.dict=none:=by
 cases x with
 | str z =>
  obtain ⟨t,rfl⟩:=r
  cases (show T = "str" from ty)
  exact ⟨typeIs_str s z t,fun _ e=>nomatch e⟩
 | int i =>
  obtain ⟨t,rfl⟩:=r
  cases (show T = "int" from ty)
  exact ⟨typeIs_int s i t,fun _ e=>nomatch e⟩
 | ref p =>
  cases r
  rcases ty with ⟨rfl,xs,hq⟩ | ⟨rfl,xs,hq⟩ | ⟨rfl,hk⟩ | ⟨rfl,S,n,hk⟩
  ·obtain ⟨its,_,pl,_⟩:=I.list hq
   refine ⟨pl.isList.typeIs,fun a e=>?_⟩
   cases e
   obtain ⟨o,n,e,c,hd,_⟩:=pl
   exact ⟨o,e,hd⟩
  ·obtain ⟨o,e,hc,hd⟩:∃ o,s.heap.get? p=some o/\o.cls=.type "tuple" /\ o.dict=none:=by
    rcases hq with hq | ⟨o,_,_,hk,hc,hd,_⟩
    ·obtain ⟨_,its,n,_,e⟩:=hq.ok I.hok
     exact ⟨_,e,rfl,rfl⟩
    ·exact ⟨o,I.kIn p o hk,hc,hd⟩
   refine ⟨⟨o,e,hc⟩,fun a e2=>?_⟩
   cases e2
   exact ⟨o,e,hd⟩
  ·have z:∃ o,s.heap.get? p=some o/\o.ExactDict:=by
    rcases hk with ⟨kvs,hk⟩ | ⟨kvs,hk⟩
    ·obtain ⟨_,_,_,_,o,_,_,e,ex,_⟩:=I.hok p _ hk
     exact ⟨o,e,ex⟩
    ·obtain ⟨_,_,_,_,o,_,_,e,ex,_⟩:=I.hok p _ hk
     exact ⟨o,e,ex⟩
   obtain ⟨o,e,ex⟩:=z
   refine ⟨⟨o,e,ex.1⟩,fun a e2=>?_⟩
   cases e2
   exact ⟨o,e,ex.2.1⟩
  ·obtain ⟨o,_,_,_,e,ex,_⟩:=I.hok p _ hk
   refine ⟨⟨o,e,ex.1⟩,fun a e2=>?_⟩
   cases e2
   exact ⟨o,e,ex.2.1⟩
 | _=>exact False.elim ty
def tBM (K:PySem.W.Frag) (T:String) (r:V->List V->Hp->VK->Prop) (to:TE) (t:TA):TE:=fun σ H Q=>to σ H fun x H1=>tyV K T x H1/\t σ H1 fun xs H2=>r x xs H2 Q
variable {o e:Expr} {es:List Expr} {to:TE} {t:TA} {name:Str} {apos cpos:Pos} {T id:String} {r:V->List V->Hp->VK->Prop}
theorem pS (pa:PlainAttrs T) (slot:Slot T name id) (hty:typeOf (.builtin id)=pure (.type "method_descriptor")) (hm:MtR X id r) (ho:PE X o to) (ha:PA X (e::es) t)
  (hbase:attributeBase o name X.env (eval o X.env)=eval o X.env:=by rfl)
  (hfew:((backTo cpos (starEach (e::es) X.env)).all (fun x=>!x.1) && (backToKw cpos (keywordEach [] X.env)).all (fun x=>x.1.isSome)
   && decide ((e::es).length+([]:List Keyword).length+(if ([]:List Keyword).isEmpty then 0 else 1) < 30))=true:=by rfl)
  (hline:(apos.endLine==cpos.line)=true:=by rfl) (hs:starEach (e::es) X.env=(false,eval e X.env)::starEach es X.env:=by rfl) (hplain:(backTo cpos (starEach es X.env)).any (·.1)=false:=by rfl) :
  PE X (.Call (.Attribute o name apos) (e::es) [] cpos) (tBM X.K T r to t):=by
 intro pins s σ H Q I h
 refine wpAny_Call_method_late hbase hfew hline rfl (thn (ho pins s σ H _ I h) fun v s1 hx9=>?_)
 obtain ⟨x,H1,I1,r1,ty,q1⟩:=hx9
 obtain ⟨h1,h2⟩:=aEU I1 r1 ty
 refine ⟨T,id,pa,slot,hty,h1,h2,?_⟩
 have hA:=ha cpos pins s1 σ H1 _ I1 q1
 rw [hs] at hA ⊢
 refine Calls.callWith_builtin (by show (false || (backTo cpos (starEach es X.env)).any (·.1))=false; rw [hplain] <;> rfl) (Calls.evalArgs_plain ?_)
 refine thn hA fun us s2 hx9=>?_
 obtain ⟨vs,H2,I2,r2,q2⟩:=hx9
 exact hm pins s2 σ H2 x vs v us Q I2 r1 r2 q2
/- xs.append(e),list.index on a module's tuple .. are MtR facts of 06m -/
end
def MtM (X:Cx) (id:String) (r:V->List V->Hp->VK->Prop):Prop :=
 ∀ (pins:List (Addr×Obj)) (s:Shared) (σ:St) (H:Hp) (x:V) (xs:List V) (v:Value) (us:List Value) (Q:VK),Inv X pins σ H s->bD x v->bA xs us->r x xs H Q ->
  wpAny (model X.prog X.w) X.A (call (.builtin id) (v::us)) (EP X pins σ Q) X.xe s
theorem bA.one {x:V} {us:List Value} (r:bA [x] us):∃ u,us = [u]/\bD x u:=jJ r
theorem bA.two {x y:V} {us:List Value} (r:bA [x,y] us):∃ u v,us = [u,v]/\bD x u/\bD y v:=mL r
theorem bA.zero:∀ {us:List Value},bA [] us->us = []
 | _,.nil=>rfl
theorem bA.eraseIdx:∀ {xs:List V} {us:List Value} (i:Nat),bA xs us->bA (xs.eraseIdx i) (us.eraseIdx i)
 | _,_,_,.nil=>.nil
 | _,_,0,.cons _ t=>t
 | _,_,i+1,.cons r t=>.cons r (bA.eraseIdx i t)
theorem bA.reverse {xs:List V} {us:List Value} (h:bA xs us):bA xs.reverse us.reverse:=by
 induction h with
 | nil=>exact .nil
 | cons r t ih=>rw [Wf,Wf]; exact bA.append ih (.cons r .nil)
theorem bA.rep {xs:List V} {us:List Value} (h:bA xs us):∀ k:Nat,bA (List.replicate k xs).flatten (List.replicate k us).flatten
 | 0=>.nil
 | k+1=>by
  rw [Xe,Xe,Xx,Xx]
  exact bA.append h (bA.rep h k)
theorem tJ {α:Type}:∀ (l:List α) (i:Nat),(l.eraseIdx i).length<=l.length
 | [],_=>Qk _
 | _::_,0=>Nat.le_succ _
 | _::r,i+1=>Nat.succ_le_succ (tJ r i)
theorem lK (its:List Value):∀ (k:Nat) (acc:List Value),
  List.foldl (fun x1 x2=>x1++x2) acc.toArray (List.replicate k its.toArray)=(acc++(List.replicate k its).flatten).toArray
 | 0,acc=>by simp
 | k+1,acc=>by
  have e:acc.toArray++its.toArray=(acc++its).toArray:=by simp
  have e2:(acc++its)++(List.replicate k its).flatten=acc++(List.replicate (k+1) its).flatten:=by
   rw [Xe,Xx,Wg]
  rw [<- e2,<- lK its k (acc++its),<- e,Xe,List.foldl_cons]
section
variable {X:Cx} {pins:List (Addr×Obj)} {σ:St} {H:Hp} {s:Shared} {l b:Addr} {xs ys zs:List V}
theorem Inv.lset {its its':List Value} {n:Nat} {f:Array Value->Array Value} {t':Nat} (I:Inv X pins σ H s) (hH:H l=some (.lst xs))
  (e:s.heap.get? l=some { cls:=.type "list",data:=.seq its.toArray n }) (hf:f its.toArray=its'.toArray) (hv:bA ys its') (hz:ys.length<=sizeLine) :
  Inv X pins σ (upd H l (.lst ys)) { s with heap:=s.heap.update l (Obj.mapSeq f),toks:=t' }:=by
 have q:=PySem.IsL.update e f
 rw [hf] at q
 refine I.write (x:=l) (e:=l) (by rw [hH]; exact trivial) (.inl rfl) (fun b' u hb hu=>(Xl s.heap (Obj.mapSeq f) (Ne.symm hb)).trans hu) ⟨_,q⟩ ?_
 exact ⟨hz,its',_,hv,q⟩
theorem Inv.lnew {its:List Value} {t':Nat} (I:Inv X pins σ H s) (hv:bA ys its) (hz:ys.length<=sizeLine) :
  Inv X pins σ (upd H s.heap.objs.size (.lst ys)) { s with heap:=s.heap.push { cls:=.type "list",data:=.seq its.toArray },toks:=t' } :=
 I.laid (fun _ _ q=>Qc _ q) (Qk _) ⟨hz,its,0,hv,Qq _ rfl⟩
theorem Inv.fresh (I:Inv X pins σ H s):H s.heap.objs.size=none:=I.hok.fresh (Qk _)
theorem Inv.lstM (I:Inv X pins σ H s) (hH:H l=some (.lst xs)):xs.length<=sizeLine/\∃ (its:List Value) (n:Nat),bA xs its/\xs.length=its.length/\s.heap.get? l=some { cls:=.type "list",data:=.seq its.toArray n }:=by
 obtain ⟨z,its,n,r,e⟩:=I.hok l _ hH
 exact ⟨z,its,n,r,r.length,e⟩
theorem aBC {n:Nat} (h:n<=sizeLine):Builtin.List.listTooLong n=false:=by
 unfold Builtin.List.listTooLong
 exact decide_eq_false (by omega)
end
section
variable {X:Cx}
def aDi:V->List V->Hp->VK->Prop:=fun x vs H Q=>∃ l xs y,x=.ref l/\vs = [y]/\H l=some (.lst xs)/\xs.length < sizeLine/\Q .non (upd H l (.lst (xs++[y])))
theorem lL:MtM X "list.append" aDi:=by
 intro pins s σ H x vs v us Q I rx rv h
 obtain ⟨l,xs,y,rfl,rfl,hH,hz,q⟩:=h
 cases rx
 obtain ⟨u,rfl,ru⟩:=rv.one
 obtain ⟨z,its,n,r,hl,e⟩:=I.lstM hH
 refine call_meets F.slot_list_append ⟨_,e,rfl⟩ F.entry_list_append (F.args_list_append_2 _ _) (PySem.list_append l its.toArray n u (by rw [Qs]; omega)) ⟨e,?_⟩
 refine ⟨.non,_,I.lset (its':=its++[u]) hH e (by simp) (r.append (.cons ru .nil)) ?_,rfl,q⟩
 rw [Qr,Xd]
 omega
def aEV:V->List V->Hp->VK->Prop:=fun x vs H Q=>∃ l xs i k y,x=.ref l/\vs = [.int i]/\H l=some (.lst xs)/\-(2^63)<=i/\i < 2^63/\seqIndex? i xs.length=some k/\xs[k]?=some y/\Q y (upd H l (.lst (xs.eraseIdx k)))
theorem aBD:MtM X "list.pop" aEV:=by
 intro pins s σ H x vs v us Q I rx rv h
 obtain ⟨l,xs,i,k,y,rfl,rfl,hH,h1,h2,hk,hy,q⟩:=h
 cases rx
 obtain ⟨u,rfl,ru⟩:=rv.one
 obtain ⟨t,rfl⟩:=ru
 obtain ⟨z,its,n,r,hl,e⟩:=I.lstM hH
 obtain ⟨w,hw,rw'⟩:=r.get hy
 refine call_meets F.slot_list_pop ⟨_,e,rfl⟩ F.entry_list_pop (F.args_list_pop_2 _ _)
  (MeetsSeq.list_pop_at l its.toArray n i t k w (fitsIndex_both h1 h2) (by rw [Qs,<- hl]; exact hk) (by rw [<- Array.getElem?_toList]; exact hw) (by rw [Qs]; omega)) ⟨e,?_⟩
 refine ⟨y,_,I.lset (its':=its.eraseIdx k) hH e ?_ (r.eraseIdx k) ?_,rw',q⟩
 ·show its.toArray.eraseIdxIfInBounds k=(its.eraseIdx k).toArray
  rw [List.eraseIdxIfInBounds_toArray]
 ·have:=tJ xs k
  omega
def aGu:R2:=fun x y H Q=>∃ l b xs zs,x=.ref l/\y=.ref b/\H l=some (.lst xs)/\H b=some (.lst zs)/\xs.length+zs.length<=sizeLine/\∀ p,H p=none->Q (.ref p) (upd H p (.lst (xs++zs)))
theorem yC:OpR X (binaryOp .Add) aGu:=by
 intro pins s σ H x y v u Q I rx ry h
 obtain ⟨l,b,xs,zs,rfl,rfl,hH,hB,hz,q⟩:=h
 cases rx
 cases ry
 obtain ⟨z,its,n,r,hl,e⟩:=I.lstM hH
 obtain ⟨z2,its2,n2,r2,hl2,e2⟩:=I.lstM hB
 refine PySem.P.add_list e e2 ?_ (by rw [Qs,Qs]; omega)
 have ea:its.toArray++its2.toArray=(its++its2).toArray:=by simp
 rw [ea]
 exact ⟨.ref _,_,I.lnew (t':=s.toks) (r.append r2) (by rw [Qr]; omega),rfl,q _ I.fresh⟩
def aGv:R2:=fun x y H Q=>∃ l k xs,x=.ref l/\y=.int k/\H l=some (.lst xs)/\-(2^63)<=k/\k < 2^63/\xs.length*k.toNat<=sizeLine /\
 ∀ p,H p=none->Q (.ref p) (upd H p (.lst (List.replicate k.toNat xs).flatten))
theorem uB {α:Type} (xs:List α) (k:Nat):(List.replicate k xs).flatten.length=k*xs.length:=by
 induction k with
 | zero=>simp
 | succ k ih=>rw [Xe,Xx,Qr,ih,Qai,Nat.add_comm]
theorem aBE:OpR X (binaryOp .Mult) aGv:=by
 intro pins s σ H x y v u Q I rx ry h
 obtain ⟨l,k,xs,rfl,rfl,hH,h1,h2,hz,q⟩:=h
 cases rx
 obtain ⟨t,rfl⟩:=ry
 obtain ⟨z,its,n,r,hl,e⟩:=I.lstM hH
 have hlen:its.toArray.size*k.toNat<=sizeLine:=by rw [Qs,<- hl]; exact hz
 have hcap:¬ its.toArray.size*k.toNat > (2^63 - 1) / 8:=by
  have:(sizeLine:Nat)<=(2^63 - 1) / 8:=by decide
  omega
 have hfit:¬ (!Builtin.List.listFitsIndex k)=true:=by
  rw [fitsIndex_both h1 h2]
  exact Qw
 have hlong:¬ Builtin.List.listTooLong (its.toArray.size*k.toNat)=true:=by
  rw [aBC hlen]
  exact Qw
 have hnew:List.foldl (fun x1 x2=>x1++x2) #[] (List.replicate (if its.toArray.isEmpty=true then 0 else k.toNat) its.toArray)=(List.replicate k.toNat its).flatten.toArray:=by
  have f0:∀ m:Nat,List.foldl (fun x1 x2=>x1++x2) #[] (List.replicate m its.toArray)=(List.replicate m its).flatten.toArray:=fun m=>by
   have:=lK its m []
   rw [Zg] at this
   exact this
  rw [f0]
  cases its with
  | nil=>simp
  | cons a r'=>rw [if_neg (by simp)]
 refine wpAny_binaryOp_repeat_ref (T := "list") (U := "int") (by decide) ⟨_,e,rfl⟩ (fun s'=>typeIs_int s' k t) noFill_list_mul F.fills_int_mul F.slot_int_rmul repeat_list F.slot_int_index.lookup
  (call_meets F.slot_int_rmul (typeIs_int s k t) F.entry_int_rmul (F.args_int_rmul_2 _ _) (int___rmul___int_list k t l its.toArray n)
   ⟨e,rfl,⟨_,e,rfl⟩,call_meets F.slot_list_mul ⟨_,e,rfl⟩ F.entry_list_mul (F.args_list_mul_2 _ _) (AutoListH.list___mul___list_int_3 l its.toArray n k t hfit hcap hlong) ⟨e,?_⟩⟩)
 rw [hnew]
 exact ⟨.ref _,_,I.lnew (t':=s.toks) (r.rep k.toNat) (by rw [uB,Nat.mul_comm]; exact hz),rfl,q _ I.fresh⟩
end
section
variable {prog:Program} {w:World} {A:Around} {E:Value->Shared->Prop} {s:Shared}
end
section
variable {X:Cx}
end
end L2
namespace Att
open PySem PySem.W PySem.Calls PyProof.Rows
theorem oT {P:Params} {h:Heap}:∀ (ns:List Int) (vs:List Value),WellAll P h vs (ns.map WData.int)->IntsAre vs ns:=by
 intro ns
 induction ns with
 | nil =>
  intro vs w
  rw [Qah] at w
  cases w
  exact .nil
 | cons n ns ih =>
  intro vs w
  rw [Jg] at w
  cases w with
  | cons a b =>
   cases a
   exact .cons _ _ (ih _ b)
theorem aAG {l:OpenLaw} {n:Nat} (hn:l.most=some n) {P:Params} {h:Heap} {args:List WData} {vals:List Value}
  (hpre:l.row.toRowW.claim.pre args=true) (hwl:WellAll P h vals args) :
  ∃ a vs ns,vals = [Value.ref a]/\args = [WData.list (ns.map WData.int)]/\h.get? a=some { cls:=.type "list",data:=.seq vs.toArray }/\IntsAre vs ns/\ns.length<=n:=by
 have hsh:WShape.hasAll [] args [.list .int]=true:=(pre_splitW hpre).1
 have hc:l.pre.holds [] { args:=args }=true:=(pre_splitW hpre).2
 obtain ⟨d,r,rfl,h1,h2⟩:=hasAllW_cons hsh
 obtain rfl:=hasAllW_nil h2
 obtain ⟨xs,rfl,h3⟩:=hasW_list h1
 obtain ⟨ns,rfl⟩:=items_int h3
 have hlen:ns.length<=n:=by
  unfold OpenLaw.pre at hc
  have h4:(WTm.not (.lt (.lit (.int (n:Int))) (.len (.arg 0)))).holds [] { args:=[.list (ns.map .int)] }=true:=by
   have h4:=(holds_andW hc).1
   rw [hn] at h4
   exact h4
  have h5:=condW_of h4 (w_not (w_lt w_lit (w_len_list (w_arg rfl))))
  rw [Qa] at h5
  refine Nat.le_of_not_lt fun q=>?_
  have q':(n:Int) < ((ns.length:Nat):Int):=by omega
  first
   | (rw [decide_eq_true q'] at h5; exact absurd h5 (by decide))
   | (simp at h5; omega)
 cases hwl with
 | cons w1 w2 =>
  cases w2
  cases w1 with
  | list ho hall=>exact ⟨_,_,ns,rfl,rfl,ho,oT ns _ hall,hlen⟩
theorem aAH (l:OpenLaw) (args:List WData):l.row.toRowW.claim.post args (.bool true) args=true :=
 postW_of (r:=l.row.toRowW) (X:=(true==true))
  (show WShape.has [] (.bool true) .bool=true by first | rfl | decide | simp [WShape.has,WShape.arms,WShape.armsAll])
  (show (WTm.eq .res (.lit (.bool true))).value [] { args:=args,res:=some (.bool true),after:=args }=some (.bool (true==true)) from w_eq_bool (w_res rfl) w_lit) rfl
theorem attach_call {l:OpenLaw} {n:Nat} {q:Program} {loose:List Str} {XP:(Str->Option Value)->Heap->Prop} {YP:World->Heap->Prop} {d:DefRec}
  (hn:l.most=some n) (hdf:d.params.defaults = [])
  (call:∀ (w:World) (s₀ s₁:Shared) (mg mb:Str->Option Value) (fa:Addr) (o:Obj) (pm cd doc:Value) (a:Addr) (vs:List Value) (ns:List Int),
   Ground q loose [] XP w s₀ mg mb s₁.heap->YP w s₁.heap ->
   s₁.heap.get? fa=some o->o.data=.func (docDef d.name d.params d.body d.scope pm cd doc)->s₁.heap.CodeRec cd d.name->mg d.name=some (.ref fa) ->
   s₁.heap.get? a=some { cls:=.type "list",data:=.seq vs.toArray }->IntsAre vs ns->ns.length<=n->s₁.gens = #[] ->
   codeAny (model l.prog w) callerA (.call (.ref fa) ⟨[.ref a],[]⟩) (fun r s'=>r=.ok (.ret (.bool true))/\OldK s₁.heap s'.heap/\s'.os=s₁.os/\AllBare s'.gens) s₁) :
  WalkO q loose XP YP l.row.toRowW d [] (fun f vs=>PySem.call f vs):=by
 intro w s₀ s₁ mg mb G Y fa o pm cd doc dV kV ho hd hcd hD hmg hg args vals as hpre hlay hrd hwl hlo
 obtain rfl:dV=.none:=Dflts.none hD hdf
 obtain rfl:kV=.none:=Dflts.noKw hD
 obtain ⟨a,vs,ns,rfl,rfl,hobj,hints,hlen⟩:=aAG hn hpre hwl
 refine enter_call (codeAny_mono (call w s₀ s₁ mg mb fa o pm cd doc a vs ns G Y ho (fd_plain hd) hcd hmg hobj hints hlen hg) fun r s' hq=>?_)
 obtain ⟨rfl,h2,h3,h4⟩:=hq
 exact ⟨.inl ⟨.bool true,.bool true,[],rfl,fun _=>rfl,.bool true,aAH l _,fun _=>⟨List.Pairwise.nil,fun _ hm=>(nomatch hm)⟩⟩,h2,h3,h4⟩
section
variable {prog:Program} {w:World} {A:Around} {E:Value->Shared->Prop} {s:Shared} {K:Frag}
end
end Att
namespace L2
open PySem PySem.Spec PyProof.Rows
theorem tK:∀ {vs:List Value} {ns:List Int},IntsAre vs ns->bA (ns.map V.int) vs
 := by
 intro vs ns h
 induction h with
 | nil=>exact .nil
 | cons n t h ih=>exact .cons ⟨t,rfl⟩ ih
def jK (s:Stmt):Arguments:=match s with
 | .FunctionDef _ a _ _ _ _ _ _ _ _=>a
 | _=>{ posonlyargs:=[],args:=[],vararg:=none,kwonlyargs:=[],kw_defaults:=[],kwarg:=none,defaults:=[] }
def eY (s:Stmt):List Stmt:=match s with
 | .FunctionDef _ _ b _ _ _ _ _ _ _=>b
 | _=>[]
def aH (s:Stmt):Scope:=match s with
 | .FunctionDef _ _ _ _ _ _ sc _ _ _=>sc
 | _=>{ kind:=.function,names:=[],isGenerator:=false,isCoroutine:=false }
abbrev CX0:CXT:=fun _ _ _ _ _ _=>False
abbrev E0:XK:=fun _ _ _=>False
theorem aFO {X:Cx}:xY CX0 X E0:=fun _ _ _ _ _ _ _ h=>h.elim
structure Fun (K:PySem.W.Frag) (x qual:Str) (st:Stmt) (f:Addr) (fd:FuncData):Prop where
 ex:∃ (oc:Value) (od:Option Addr) (kV doc pm:Value) (an:Option Addr) (cdv ct:Value) (osl:Array (Option Value)),
  fd=PySem.W.fnOf x qual (jK st) (eY st) (aH st) .none kV doc pm an cdv ct/\K.lookup f=some ⟨oc,od,.func fd,osl⟩/\PySem.W.codeIn K cdv qual=true
 kp:PySem.W.keepIn K (.ref f)=true
section
variable {P:Program} {w:World} {K:PySem.W.Frag} {mg:Str->Option Value} {base:Heap}
theorem Fun.ok {x qual:Str} {st:Stmt} {f:Addr} {fd:FuncData} {N ps:List Str} {k:Nat} {sp:Sp} (F:Fun K x qual st f fd) (S:FnScope N ps (aH st)) (len:∀ vs H Q E,sp vs H Q E->vs.length=ps.length)
  (hbody:∀ (cdv:Value) (A:Around) (outer:List Env) (s:Shared) (H:Hp) (vs:List V) (Q:VK) (E:XK),Room k (A.deeper (envOfC qual (aH st) s.heap.objs.size f cdv))->sp vs H Q E ->
   ∃ t,PSs (xZ CX0 P w K mg base N qual (aH st) f cdv A outer s H E).nox (eY st) t/\t { nx:=fun _ H'=>Q .non H',rt:=Q } (start N vs) H):FnOk P w K mg base CX0 (k+1) f fd ps sp:=by
 obtain ⟨oc,od,kV,doc,pm,an,cdv,ct,osl,rfl,lk,hcd⟩:=F.ex
 refine aEi lk hcd S len fun A outer s H vs Q E hr hsp=>?_
 obtain ⟨t,h,q⟩:=hbody cdv A outer s H vs Q E hr hsp
 exact ⟨t,h.nox,q⟩
theorem Fun.binds {x qual:Str} {st:Stmt} {f:Addr} {fd:FuncData} {ps:List Str} (F:Fun K x qual st f fd)
  (h:∀ (kV doc pm:Value) (an:Option Addr) (cdv ct:Value) (us:List Value),us.length=ps.length->bindArgs (PySem.W.fnOf x qual (jK st) (eY st) (aH st) .none kV doc pm an cdv ct) ⟨us,[]⟩=pure (ps.zip us)):tE K fd ps []:=by
 obtain ⟨oc,od,kV,doc,pm,an,cdv,ct,osl,rfl,lk,hcd⟩:=F.ex
 exact .all (h kV doc pm an cdv ct)
theorem aBF {x qual:Str} {st:Stmt} {f:Addr} {oc:Value} {od an:Option Addr} {osl:Array (Option Value)} {kV doc pm cdv ct:Value} (l:K.lookup f=some ⟨oc,od,.func (PySem.W.fnOf x qual (jK st) (eY st) (aH st) .none kV doc pm an cdv ct),osl⟩)
  (c:PySem.W.codeIn K cdv qual=true) (k:PySem.W.keepIn K (.ref f)=true):Fun K x qual st f (PySem.W.fnOf x qual (jK st) (eY st) (aH st) .none kV doc pm an cdv ct):=⟨⟨oc,od,kV,doc,pm,an,cdv,ct,osl,rfl,l,c⟩,k⟩
end
theorem jL {A:Around} {k:Nat} (hr:Room k A):A.units+1 < cLine:=Jy (Nat.add_le_add_left (by decide:1<=64) _) hr.units
section
variable {X:Cx}
theorem pv (i:Nat) {x:Str} {pos:Pos} (hN:X.N[i]?=some x:=by rfl) (hv:Vis X.env.scope x:=by first | exact Or.inl rfl | exact Or.inr (Or.inl rfl) | exact Or.inr (Or.inr rfl)) (hd:(x==("__debug__" : Str))=false:=by decide)
  (hcd:(x==("__classdict__" : Str))=false:=by decide):PE X (.Name x pos) (aFp i):=aEG hN hv hd hcd
end
theorem kY {A B:Prop} (h:B):if false=true then A else B:=by
 rw [if_neg Qw]
 exact h
theorem jY {A B:Prop} (h:A):if true=true then A else B:=by
 rw [if_pos rfl]
 exact h
theorem gW {c A B:Prop} [Decidable c] (h1:c->A) (h2:¬ c->B):if c then A else B:=by
 by_cases h:c
 ·rw [if_pos h]
  exact h1 h
 ·rw [if_neg h]
  exact h2 h
def aE (H H':Hp):Prop:=∀ b o,H b=some o->H' b=some o
theorem aE.refl (H:Hp):aE H H:=fun _ _ h=>h
theorem aE.trans {H H1 H2:Hp} (a:aE H H1) (b:aE H1 H2):aE H H2:=fun c o h=>b c o (a c o h)
theorem aE.free {H H':Hp} (e:aE H H') {l:Addr} (h:H' l=Option.none):H l=Option.none:=by
 cases q:H l with
 | none=>rfl
 | some o =>
  rw [e l o q] at h
  cases h
theorem aE.seq {K:PySem.W.Frag} {H H':Hp} {a:Addr} {xs:List V} (e:aE H H') (h:SqL K H a xs):SqL K H' a xs:=by
 rcases h with (h | ⟨o,h⟩) | h
 ·exact .inl (.inl (e _ _ h))
 ·exact .inl (.inr ⟨o,e _ _ h⟩)
 ·exact .inr h
def bZ (env:Env):List (Str×NameKind)->List (Str×Addr)->List (Str×Addr)
 | [],acc=>acc
 | (n,k)::r,acc=>if k==.free then (match env.cells.lookup n with | some c=>bZ env r ((n,c)::acc) | none=>bZ env r acc) else bZ env r acc
theorem vR {env:Env}:∀ (names:List (Str×NameKind)) (acc:List (Str×Addr)),(∀ y∈names,y.2=.free->∃ c,env.cells.lookup y.1=some c) ->
  (forIn names acc fun (x:Str×NameKind) (r:List (Str×Addr))=>(match x with
   | (name,kind)=>if (kind==NameKind.free)=true then (do let a<-cellOf env name; pure (ForInStep.yield ((name,a)::r))) else pure (ForInStep.yield r):Sem (ForInStep (List (Str×Addr)))))=(pure (bZ env names acc):Sem _)
 | [],acc,_=>rfl
 | (n,k)::r,acc,h=>by
  have ih:=fun acc=>vR r acc fun y hy=>h y (Ql _ hy)
  rw [Yd]
  by_cases hk:(k==NameKind.free)=true
  ·obtain ⟨c,hc⟩:=h (n,k) Qg (by simpa using hk)
   have e1:bZ env ((n,k)::r) acc=bZ env r ((n,c)::acc):=by
    show (if k==.free then _ else _)=_
    rw [if_pos hk]; simp only at hc; rw [hc]
   simp only at hc
   rw [e1,<- ih]
   simp only [hk,if_true,cellOf,hc]
   rfl
  ·have e1:bZ env ((n,k)::r) acc=bZ env r acc:=by
    show (if k==.free then _ else _)=_
    rw [if_neg hk]
   rw [e1,<- ih]
   simp only [hk,if_false]
   rfl
theorem yD {env:Env} {scope:Scope} (h:∀ y∈scope.names,y.2=.free->∃ c,env.cells.lookup y.1=some c):closureFor scope env=pure (bZ env scope.names []):=by
 unfold closureFor
 have e:=vR scope.names [] h
 show (forIn scope.names [] _ >>= _)=_
 exact (congrArg (fun z=>z >>= fun r=>pure r) e).trans rfl
theorem gO {env:Env}:∀ (names:List (Str×NameKind)) (acc:List (Str×Addr)) (n:Str) (c:Addr),(n,c)∈bZ env names acc->(n,c)∈acc∨env.cells.lookup n=some c
 | [],_,_,_,h=>.inl h
 | (m,k)::r,acc,n,c,h=>by
  by_cases hk:(k==NameKind.free)=true
  ·rw [show bZ env ((m,k)::r) acc=(match env.cells.lookup m with | some c=>bZ env r ((m,c)::acc) | none=>bZ env r acc) from if_pos hk] at h
   cases e:env.cells.lookup m with
   | none=>rw [e] at h; exact gO r acc n c h
   | some d =>
    rw [e] at h
    rcases gO r _ n c h with q | q
    ·rcases Qp.mp q with q | q
     ·cases q; exact .inr e
     ·exact .inl q
    ·exact .inr q
  ·rw [show bZ env ((m,k)::r) acc=bZ env r acc from if_neg hk] at h
   exact gO r acc n c h
theorem iZ {env:Env}:∀ (names:List (Str×NameKind)) (acc:List (Str×Addr)) (n:Str),((∃ c,(n,c)∈acc)∨((n,NameKind.free)∈names/\∃ c,env.cells.lookup n=some c))->∃ c,(n,c)∈bZ env names acc
 | [],_,_,h=>by
  rcases h with h | ⟨h,_⟩
  ·exact h
  ·cases h
 | (m,k)::r,acc,n,h=>by
  by_cases hk:(k==NameKind.free)=true
  ·rw [show bZ env ((m,k)::r) acc=(match env.cells.lookup m with | some c=>bZ env r ((m,c)::acc) | none=>bZ env r acc) from if_pos hk]
   cases e:env.cells.lookup m with
   | none =>
    refine iZ r acc n ?_
    rcases h with h | ⟨h,c,hc⟩
    ·exact .inl h
    ·rcases Qp.mp h with h | h
     ·cases h; rw [e] at hc; cases hc
     ·exact .inr ⟨h,c,hc⟩
   | some d =>
    refine iZ r _ n ?_
    rcases h with ⟨c,h⟩ | ⟨h,c,hc⟩
    ·exact .inl ⟨c,Ql _ h⟩
    ·rcases Qp.mp h with h | h
     ·cases h; exact .inl ⟨d,Qg⟩
     ·exact .inr ⟨h,c,hc⟩
  ·rw [show bZ env ((m,k)::r) acc=bZ env r acc from if_neg hk]
   refine iZ r acc n ?_
   rcases h with h | ⟨h,c,hc⟩
   ·exact .inl h
   ·rcases Qp.mp h with h | h
    ·cases h; exact absurd rfl hk
    ·exact .inr ⟨h,c,hc⟩
theorem cQ {β:Type}:∀ {l:List (Str×β)} {a:Str} {b:β},l.lookup a=some b->(a,b)∈l:=PySem.mem_of_lookup_some
theorem iB {β:Type}:∀ {l:List (Str×β)} {a:Str} {b:β},(a,b)∈l->∃ c,l.lookup a=some c
 | (k,v)::l,a,b,h=>by
  rw [Xc]
  by_cases e:(a==k)=true
  ·rw [e]; exact ⟨v,rfl⟩
  ·have e':(a==k)=false:=by simpa using e
   rw [e']
   rcases Qp.mp h with h | h
   ·cases h; simp at e
   ·exact iB h
theorem fG {env:Env} (x:Str):∀ (names:List (Str×NameKind)),
  (names.map fun (n,k)=>if (k==NameKind.free && env.scope.kind==.function && env.kindOf n==some .cell) then (n,NameKind.cell) else (n,k)).lookup x =
   (names.lookup x).map fun k=>if (k==NameKind.free && env.scope.kind==.function && env.kindOf x==some .cell) then NameKind.cell else k
 | []=>rfl
 | (n,k)::r=>by
  have ih:=fG (env:=env) x r
  rw [Jg]
  by_cases e:(x==n)=true
  ·have en:x=n:=by simpa using e
   subst en
   dsimp only
   by_cases c:(k==NameKind.free && env.scope.kind==.function && env.kindOf x==some .cell)=true
   ·rw [if_pos c,Xc,Xc,e]
    simp only [Xn,c,if_true]
   ·rw [if_neg c,Xc,Xc,e]
    simp only [Xn,c]
    rfl
  ·have e':(x==n)=false:=by simpa using e
   dsimp only
   by_cases c:(k==NameKind.free && env.scope.kind==.function && env.kindOf n==some .cell)=true
   ·rw [if_pos c,Xc,Xc,e']; exact ih
   ·rw [if_neg c,Xc,Xc,e']; exact ih
def aP (X:Cx) (scope:Scope) (N:List Str) (C:Addr) (s0:Shared) (H0:Hp) (fp:List Addr):Cx where
 prog:=X.prog
 w:=X.w
 K:=X.K
 mg:=X.mg
 base:=X.base
 A:=X.A
 N:=N
 s₀:=s0
 H₀:=H0
 env:=compEnvC scope (bZ X.env scope.names []) C X.env
 outer:=X.stack
 stack:=X.stack
 ex:=fp
 fn:=fun _=>false
 calm:=X.calm
 pn:=[]
 xe:=fun _ _=>False
def nN (sc scope:Scope) (own:List Str) (frn:List Str):Bool :=
 scope.kind==.function && scope.names.all (fun y=>y.2 !=.cell) && scope.names.all (fun y=>y.2 !=.local || scope.names.lookup y.1==some .local) &&
 scope.names.all (fun y=>y.2 !=.free || sc.names.lookup y.1==some .cell || sc.names.lookup y.1==some .free) && decide (own++frn).Nodup &&
 own.all (fun x=>scope.names.lookup x==some .local) && frn.all (fun x=>scope.names.lookup x==some .free)
def blk (own:Nat) (fr:List Nat) (σ:St):St:=List.replicate own none++fr.map fun j=>(σ[j]?).join
structure CompOk (X:Cx) (scope:Scope) (own:List Str) (fr:List Nat) (frn:List Str):Prop where
 ck:nN X.env.scope scope own frn=true
 ix:∀ (k:Nat) (x:Str),frn[k]?=some x->∃ j:Nat,fr[k]?=some j/\X.N[j]?=some x
 len:fr.length=frn.length
section
variable {X:Cx} {scope:Scope} {own frn:List Str} {fr:List Nat}
theorem CompOk.parts (S:CompOk X scope own fr frn):scope.kind=.function/\(∀ y∈scope.names,y.2≠.cell)/\(∀ y∈scope.names,y.2=.local->scope.names.lookup y.1=some .local) /\
  (∀ y∈scope.names,y.2=.free->X.env.scope.names.lookup y.1=some .cell∨X.env.scope.names.lookup y.1=some .free)/\(own++frn).Nodup/\(∀ x∈own,scope.names.lookup x=some .local)/\∀ x∈frn,scope.names.lookup x=some .free:=by
 have h:=S.ck
 unfold nN at h
 simp only [Jr,Jb,decide_eq_true_eq,Bool.or_eq_true,bne_iff_ne,ne_eq,beq_iff_eq] at h
 obtain ⟨⟨⟨⟨⟨⟨h1,h2⟩,h3⟩,h4⟩,h5⟩,h6⟩,h7⟩:=h
 refine ⟨h1,h2,fun y hy e=>?_,fun y hy e=>?_,h5,h6,h7⟩
 ·rcases h3 y hy with z | z
  ·exact absurd e z
  ·exact z
 ·rcases h4 y hy with (z | z) | z
  ·exact absurd e z
  ·exact .inl z
  ·exact .inr z
theorem yE (S:CompOk X scope own fr frn) (σ:St):(blk own.length fr σ).length=(own++frn).length:=by
 unfold blk
 rw [Qr,Qr,Xi,Qa,S.len]
theorem pT {pins:List (Addr×Obj)} {σ:St} {H:Hp} {s:Shared} {fp:List Addr} {h1:Heap} {tk:Nat} {C D:Addr} {oD:Obj} {m:Str->Option Value} (I:Inv X pins σ H s) (S:CompOk X scope own fr frn)
  (hfp:∀ b∈fp,gU X pins H b) (hlt:∀ b∈fp,b < s.heap.objs.size) (hC:s.heap.objs.size<=C) (hn:h1.Ns C m) (hk:∀ b o,s.heap.get? b=some o->h1.get? b=some o)
  (hD:s.heap.objs.size<=D) (hDC:D≠C) (hoD:h1.get? D=some oD) (hdD:∀ v,oD.data≠.cell v) :
  Inv (aP X scope (own++frn) C s H fp) [(D,oD)] (blk own.length fr σ) H { s with heap:=h1,toks:=tk }:=by
 obtain ⟨p1,p2,p3,p4,p5,p6,p7⟩:=S.parts
 have below:∀ b,b < s.heap.objs.size->b≠C:=fun b hb z=>Qu _ (Qi (z ▸ hb) hC)
 have clsub:∀ x c,(bZ X.env scope.names []).lookup x=some c->X.env.cells.lookup x=some c:=fun x c e=>by
  rcases gO _ _ _ _ (cQ e) with q | q
  ·cases q
  ·exact q
 have clt:∀ x c,X.env.cells.lookup x=some c->c < s.heap.objs.size:=fun x c e=>by
  obtain ⟨v,q⟩:=I.cell x c e
  exact q.lt
 have nstk:∀ b∈fp,b∉frs X.stack:=fun b hb z=>by
  obtain ⟨_,f1,f2,_⟩:=hfp b hb
  rcases Qp.mp (I.stkSub b z) with e | e
  ·exact f1 e
  ·exact f2 e
 have Dfs:D∉frs X.stack:=fun z=>by
  have q:=I.stkSub D z
  rcases Qp.mp q with e | e
  ·exact Qu _ (Qi (e ▸ I.lt:D < _) hD)
  ·exact I.nofs hD e
 refine ⟨⟨I.ok.mod,p1,I.ok.glob,I.ok.blt,hC,fun x y c e1 e2=>I.ok.inj x y c (clsub x c e1) (clsub y c e2),fun x hx=>?_,fun x c e=>absurd e (by show ¬ (false=true); decide),I.ok.hd,I.ok.frames,.inl rfl,fun b hb=>?_,I.bs,Qv I.ok.bsz I.sz,fun b o e hb=>?_,nstk,I.stack,I.stkFree⟩,
  rfl,I.bare,Un.kept hk,⟨m,hn,fun i x v e1 e2 e3=>?_⟩,fun x c e=>?_,I.hok.fresh hC,fun x c e=>I.freeC x c (clsub x c e),fun p hp=>?_,I.hok.kept hk,yE S σ⟩
 ·-- has
  have hx':(relabel scope X.env).names.lookup x=some .cell∨(relabel scope X.env).names.lookup x=some .free:=hx
  have hl:(relabel scope X.env).names.lookup x=_:=fG (env:=X.env) x scope.names
  rw [hl] at hx'
  cases e:scope.names.lookup x with
  | none =>
   rw [e] at hx'
   rcases hx' with z | z <;> cases z
  | some k =>
   have hmem:=cQ e
   have hkf:k=.free:=by
    rw [e] at hx'
    simp only [Xn,Option.some.injEq] at hx'
    by_cases c:(k==NameKind.free && X.env.scope.kind==.function && X.env.kindOf x==some .cell)=true
    ·simp only [Jr,beq_iff_eq] at c
     exact c.1.1
    ·rw [if_neg c] at hx'
     rcases hx' with z | z
     ·exact absurd z (p2 _ hmem)
     ·exact z
   subst hkf
   obtain ⟨c,hc⟩:=I.ok.has x (p4 _ hmem rfl)
   obtain ⟨c',hc'⟩:=iZ (env:=X.env) scope.names [] x (.inr ⟨hmem,c,hc⟩)
   exact iB hc'
 ·-- exf
  refine ⟨below b (hlt b hb),fun x c e=>?_⟩
  exact (hfp b hb).2.2.2.2.1 x c (clsub x c e)
 ·-- noex
  rcases (hfp b hb).2.2.2.1 with z | z
  ·exact I.ok.noex b o e z
  ·exact absurd (Qi (Qm (I.ok.bs b o e).1) z) (Qu _)
 ·-- loc
  show ∃ u,bD v u/\aEF _ _ _ x u
  have e1':(own++frn)[i]?=some x:=e1
  have e2':(blk own.length fr σ)[i]?=some (some v):=e2
  unfold blk at e2'
  by_cases hi:i < own.length
  ·rw [Jc (by simpa using hi),Xp] at e2'
   rw [if_pos hi] at e2'
   cases e2'
  ·rw [Jh (by simpa using hi)] at e2'
   rw [Jh (by omega)] at e1'
   rw [Xi,Qe] at e2'
   obtain ⟨j,hj1,hj2⟩:=S.ix _ _ e1'
   rw [hj1] at e2'
   simp only [Xn,Option.some.injEq] at e2'
   have hσ:σ[j]?=some (some v):=by
    cases q:σ[j]? with
    | none=>rw [q] at e2'; cases e2'
    | some w=>rw [q] at e2'; exact congrArg some e2'
   have hfree:=p7 x (Qh e1')
   have hmem:=cQ hfree
   have kx:=p4 _ hmem rfl
   have vis:Vis X.env.scope x:=by
    rcases kx with z | z
    ·exact .inr (.inl z)
    ·exact .inr (.inr z)
   obtain ⟨m0,hn0,hl0⟩:=I.loc
   obtain ⟨u,ru,lk⟩:=hl0 j x v hj2 hσ vis
   refine ⟨u,ru,.inr ⟨?_,?_⟩⟩
   ·show (relabel scope X.env).names.lookup x=some .cell∨(relabel scope X.env).names.lookup x=some .free
    have hl:(relabel scope X.env).names.lookup x=_:=fG (env:=X.env) x scope.names
    rw [hl,hfree]
    simp only [Xn,Option.some.injEq]
    by_cases c:(NameKind.free==NameKind.free && X.env.scope.kind==.function && X.env.kindOf x==some .cell)=true
    ·rw [if_pos c]; exact .inl rfl
    ·rw [if_neg c]; exact .inr rfl
   ·rcases lk with ⟨kl,_⟩ | ⟨_,c,hc,hcell⟩
    ·have kl':X.env.scope.names.lookup x=some .local:=kl
     rcases kx with z | z <;> (have z':X.env.scope.names.lookup x=_:=z; rw [kl'] at z'; cases z')
    ·obtain ⟨c',hc'⟩:=iZ (env:=X.env) scope.names [] x (.inr ⟨hmem,c,hc⟩)
     obtain ⟨c2,hc2⟩:=iB hc'
     have ec:c2=c:=by
      have:=clsub x c2 hc2
      rw [hc] at this
      exact (Option.some.inj this).symm
     subst ec
     obtain ⟨oc,ho,hd⟩:=hcell
     exact ⟨c2,hc2,oc,hk _ _ ho,hd⟩
 ·obtain ⟨v,o,ho,hd⟩:=I.cell x c (clsub x c e)
  exact ⟨v,o,hk _ _ ho,hd⟩
 ·have hp':p∈([]:List (Addr×Obj))++[(D,oD)]:=hp
  simp only [Zg,Qo] at hp'
  subst hp'
  exact ⟨hoD,I.hok.fresh hD,hDC,Dfs,hdD⟩
end
theorem oJ {prog:Program} {w:World} {A:Around} {R:Result->Shared->Prop} {s:Shared} {elt target iter:Expr} {ifs:List Expr} {scope:Scope} {pos:Pos} {it acc:Value} {env:Env} (I:Nat->Shared->Prop)
  (turn:∀ n s,I n s->wpAny (model prog w) A (pyNext it) (fun r s₁=>match r with
   | none=>R (.ok .next) s₁
   | some v=>wpAny (model prog w) A (letOwnedTupleGo target it v) (fun _ s₁'=>wpAny (model prog w) A (assign target env v) (fun _ s₂ =>
     wpAny (model prog w) A (forIn ifs true fun c r=>if r=true then do let ok<-isTrue c env (eval c env); pure (ForInStep.yield ok) else pure (ForInStep.yield r)) (fun ok s₃ =>
      if ok=true then wpAny (model prog w) A (eval elt env) (fun x s₄ =>
       wpAny (model prog w) A (call (.builtin "list.append") [acc,x]) (fun _ s₅=>∃ m,m < n/\I m s₅) (fun _ _=>False) s₄) (fun _ _=>False) s₃
      else ∃ m,m < n/\I m s₃) (fun _ _=>False) s₂) (fun _ _=>False) s₁') (fun _ _=>False) s₁) (fun _ _=>False) s)
  (n:Nat) (h:I n s) :
  codeAny (model prog w) A (.compLoop (.ListComp elt [⟨target,iter,ifs,0⟩] scope pos) 0 it acc env) R s:=by
 refine codeAny_loop rfl I (fun n s hI=>?_) n h
 show wpAny _ A ((compTurn (.ListComp elt [⟨target,iter,ifs,0⟩] scope pos) 0 it acc env).onRaise (fun x=>do noteFrame x env; theTreesLotGoes x)) _ _ s
 refine wpAny_noted ?_
 rw [compTurn_list]
 refine wpAny_bind (wpAny_standAt (wpAny_bind (wpAny_mono (turn n s hI) (fun r s₁ h₁=>?_) fun _ _ h'=>h'.elim)))
 cases r with
 | none=>exact wpAny_pure h₁
 | some v =>
  refine wpAny_bind (wpAny_mono h₁ (fun _ s₁' h₁'=>?_) fun _ _ h'=>h'.elim)
  refine wpAny_bind (wpAny_mono h₁' (fun _ s₂ h₂=>wpAny_bind (wpAny_mono h₂ (fun ok s₃ h₃=>?_) fun _ _ h'=>h'.elim)) fun _ _ h'=>h'.elim)
  cases ok with
  | false=>exact wpAny_pure ⟨rfl,h₃⟩
  | true =>
   exact wpAny_bind (wpAny_bind (wpAny_mono h₃ (fun x s₄ h₄=>wpAny_bind (wpAny_mono h₄ (fun _ s₅ h₅=>wpAny_pure (wpAny_pure ⟨rfl,h₅⟩)) fun _ _ h'=>h'.elim)) fun _ _ h'=>h'.elim))
def PF (X:Cx) (ifs:List Expr) (t:TT):Prop :=
 ∀ (pins:List (Addr×Obj)) (s:Shared) (σ:St) (H:Hp) (Q:Bool->Hp->Prop),Inv X pins σ H s->t σ H Q ->
  wpAny (model X.prog X.w) X.A (forIn ifs true fun c r=>if r=true then do let ok<-isTrue c X.env (eval c X.env); pure (ForInStep.yield ok) else pure (ForInStep.yield r)) (TP X pins σ Q) X.xe s
def aBG:TT:=fun _ H Q=>Q true H
theorem cZ {X:Cx}:PF X [] aBG:=fun _ _ _ H _ I h=>wpAny_tests_nil ⟨H,I,h⟩
theorem kH {X:Cx} {c:Expr} {t:TT} (h:PT X c t):PF X [c] t:=fun pins s σ H Q I hq=>wpAny_tests_one (h pins s σ H Q I hq)
def zR (own:Nat) (fr:List Nat) (wi:TI) (g:TG) (tt:TT) (te:TE):TE:=fun σ H Q=>wi σ H fun J H1=>∃ W:Nat->Nat->List V->St->Hp->Prop,(∃ m,W 0 m [] (blk own fr σ) H1)/\∀ i m ys σ' H,W i m ys σ' H ->
 (J.stop i H/\∀ p,H p=none->Q (.ref p) (upd H p (.lst ys))) ∨
 (J.go i H/\∃ N:List V->St->Hp->Prop,(∀ ys' σ2 H2,N ys' σ2 H2->∃ m',m' < m/\W (i+1) m' ys' σ2 H2) /\
  ∀ x H',J.yld i H x H'->g x σ' H' fun σ2 H2=>tt σ2 H2 fun b H3=>if b=true then te σ2 H3 fun y H4=>ys.length < sizeLine/\N (ys++[y]) σ2 H4 else N ys σ2 H3)
section
variable {X:Cx} {scope:Scope} {own frn:List Str} {fr:List Nat} {elt tg iter:Expr} {ifs:List Expr} {pos:Pos} {wi:TI} {g:TG} {tt:TT} {te:TE}
theorem Inv.track {pins:List (Addr×Obj)} {σ:St} {H:Hp} {s:Shared} {D:Addr} {ys:List V} {its:Array Value} (I:Inv X pins σ H s) (hD:s.heap.PlainList D its) (hv:bA ys its.toList) (hz:ys.length<=sizeLine) (hn:H D=none) (hL:D≠X.env.locals)
  (h1:X.s₀.heap.objs.size<=D) (h2:∀ x c,X.env.cells.lookup x=some c->c≠D) (h3:∀ p∈X.pn++pins,p.1≠D):Inv X pins σ (upd H D (.lst ys)) s:=by
 have ne:∀ b u,H b=some u->b≠D:=fun b u e z=>by rw [z,hn] at e; cases e
 refine I.step (g':=s.gens) (d':=s.drawn) (t':=s.toks) (h':=s.heap) (ch:=[D]) (fun b hb=>?_) (fun b o _ _ _ e _=>e) (fun b o _ _ _ e _=>⟨o.slots,e⟩) (fun b o hc _ n=>?_) (fun b o _ e=>⟨o,e⟩)
  (fun b xs e=>by rw [aG (ne b _ e)]; exact e) (fun b o u e=>by rw [aG (ne b _ e)]; exact e) (fun b ps e=>⟨#[],by rw [aG (ne b _ e),e]; simp⟩) (fun _ h=>h) (fun b u e=>?_) I.bare
 ·have e:b=D:=by simpa using hb
  subst e
  exact ⟨.inr h1,hL,h2,h3⟩
 ·rw [aG (by simpa using hc)]; exact n
 ·by_cases hb:b=D
  ·subst hb
   rw [aB] at e; cases e
   obtain ⟨n,e⟩:=hD
   exact ⟨hz,its.toList,n,hv,by simpa using e⟩
  ·rw [aG hb] at e
   exact (I.hok b u e).stay (fun c v _ q=>q) (fun c q=>by rw [aG (ne c _ q)]; exact q) fun c xs q=>by rw [aG (ne c _ q)]; exact q
theorem pU {pins:List (Addr×Obj)} {σ:St} {H2:Hp} {s2:Shared} {it:Addr} {fp:List Addr} {tn:Nat->Heap->Prop} {J:It} {RR:Value->Addr->Result->Shared->Prop} {E:Value->Shared->Prop} {Q:Hp->List V->Prop}
  (S:CompOk X scope own fr frn) (hc:X.calm=true) (I2:Inv X pins σ H2 s2) (T:Turn X.prog X.w X.K tg J fp it tn) (st2:tn 0 s2.heap) (f2:∀ b∈fp,gU X pins H2 b)
  (hg:∀ C s0 H0 fp,PG (aP X scope (own++frn) C s0 H0 fp) tg g) (ht:∀ C s0 H0 fp,PF (aP X scope (own++frn) C s0 H0 fp) ifs tt) (he:∀ C s0 H0 fp,PE (aP X scope (own++frn) C s0 H0 fp) elt te)
  (w:∃ W:Nat->Nat->List V->St->Hp->Prop,(∃ m,W 0 m [] (blk own.length fr σ) H2)/\∀ i m ys σ' H,W i m ys σ' H ->
   (J.stop i H/\Q H ys) ∨
   (J.go i H/\∃ N:List V->St->Hp->Prop,(∀ ys' σ2 H2,N ys' σ2 H2->∃ m',m' < m/\W (i+1) m' ys' σ2 H2) /\
    ∀ x H',J.yld i H x H'->g x σ' H' fun σ2 H2=>tt σ2 H2 fun b H3=>if b=true then te σ2 H3 fun y H4=>ys.length < sizeLine/\N (ys++[y]) σ2 H4 else N ys σ2 H3))
  (hRR:∀ (C D:Addr) (s':Shared) (H':Hp) (ys:List V) (its:Array Value) (m:Str->Option Value),s2.heap.objs.size<=C->s2.heap.objs.size<=D->D≠C->s'.heap.Ns C m->H' C=none->H' D=none->s'.heap.PlainList D its->bA ys its.toList->ys.length<=sizeLine ->
   Inv X pins σ H' s'->Q H' ys->RR (.ref D) C (.ok .next) s') :
  wpAny (model X.prog X.w) X.A (newList []) (fun acc s₃=>wpAny (model X.prog X.w) X.A (newFunctionEnv scope X.env.globals (bZ X.env scope.names []) [] X.env.qual none .none (some X.env)) (fun cenv s₄ =>
   codeAny (model X.prog X.w) X.A (.compStart (.ListComp elt [⟨tg,iter,ifs,0⟩] scope pos) 0 (.ref it) acc { cenv with scope:=relabel scope X.env }) (RR acc cenv.locals) s₄) E s₃) E s2:=by
 obtain ⟨p1,p2,p3,p4,p5,p6,p7⟩:=S.parts
 obtain ⟨W,⟨m0,w0⟩,turn⟩:=w
 refine wpAny_newObj_type (wpAny_newFunctionEnv p2 (by intro y hy; simp at hy) (fun h₁ hns₁ hsb₁=>?_) p1)
 dsimp only at hns₁ hsb₁ ⊢
 generalize hH2:s2.heap.push { cls:=.type "list",dict:=none,data:=.seq ([]:List Value).toArray }=HD at hns₁ hsb₁ ⊢
 have hCs:HD.objs.size=s2.heap.objs.size+1:=by rw [<- hH2,Xf]
 have hDC:s2.heap.objs.size≠HD.objs.size:=by omega
 have hCle:s2.heap.objs.size<=HD.objs.size:=by omega
 have below:∀ b,b < s2.heap.objs.size->b≠HD.objs.size/\b≠s2.heap.objs.size:=fun b hb=>⟨by omega,by omega⟩
 have old:∀ b o,s2.heap.get? b=some o->h₁.get? b=some o:=fun b o e=>hsb₁.extBut b o (below b (Qm e)).1 (Qc _ (hH2 ▸ Qc _ e))
 have hacc:h₁.get? s2.heap.objs.size=some { cls:=.type "list",data:=.seq ([]:List Value).toArray }:=hsb₁.extBut _ _ hDC (Qc _ (hH2 ▸ Qq _ rfl))
 have flt:∀ b∈fp,b < s2.heap.objs.size:=fun b hb=>by
  obtain ⟨o,e,_⟩:=T.obj _ _ st2 b hb
  exact Qm e
 generalize hDg:s2.heap.objs.size=D at *
 generalize hCg:HD.objs.size=C at *
 have st3:tn 0 h₁:=T.keep _ _ _ st2 fun b _ o e=>old b o e
 -- facts of the block
 have clsub:∀ x c,(bZ X.env scope.names []).lookup x=some c->X.env.cells.lookup x=some c:=fun x c e=>by
  rcases gO _ _ _ _ (cQ e) with q | q
  ·cases q
  ·exact q
 have cD:∀ x c,(bZ X.env scope.names []).lookup x=some c->c≠D:=fun x c e z=>by
  obtain ⟨v,q⟩:=I2.cell x c (clsub x c e)
  exact Qu _ (Qi q.lt (by rw [hDg,z]; exact Qk _))
 have loop:∀ s₃:Shared,s₃={ s2 with heap:=h₁,toks:=s2.toks+([]:List (Str×Value)).length } ->
   codeAny (model X.prog X.w) X.A (.compLoop (.ListComp elt [⟨tg,iter,ifs,0⟩] scope pos) 0 (.ref it) (.ref D) (compEnvC scope (bZ X.env scope.names []) C X.env)) (RR (.ref D) C) s₃:=by
  rintro s₃ rfl
  have I3:Inv (aP X scope (own++frn) C s2 H2 fp) [(D,_)] (blk own.length fr σ) H2 { s2 with heap:=h₁,toks:=s2.toks+([]:List (Str×Value)).length } :=
   pT (m:=fun _=>none) I2 S f2 (by rw [hDg]; exact flt) (by rw [hDg]; exact hCle) (hns₁:h₁.Ns C _) old (by rw [hDg]; exact Qk _) hDC hacc (fun v z=>by cases z)
  have stat:∀ {H':Hp} {pl:List (Addr×Obj)},(∀ p∈pl,p.1=D)->(∀ b∈fp,H' b=none)->∀ b∈fp,gU (aP X scope (own++frn) C s2 H2 fp) pl H' b:=fun {H' pl} hpl hn b hb=>by
   refine ⟨hn b hb,(below b (flt b hb)).1,fun z=>?_,.inl hb,fun x c e=>(f2 b hb).2.2.2.2.1 x c (clsub x c e),fun p hp=>?_⟩
   ·have z':b∈frs X.stack:=z
    rcases Qp.mp (I2.stkSub b z') with e | e
    ·exact (f2 b hb).2.1 e
    ·exact (f2 b hb).2.2.1 e
   ·have hp':p∈pl:=by simpa [aP] using hp
    rw [hpl p hp']
    exact Ne.symm (below b (flt b hb)).2
  refine oJ (env:=compEnvC scope (bZ X.env scope.names []) C X.env) (fun n s'=>∃ i σ' H' ys its o,Inv (aP X scope (own++frn) C s2 H2 fp) [(D,o)] σ' H' s'/\s'.heap.PlainList D its/\bA ys its.toList/\ys.length<=sizeLine/\tn i s'.heap/\(∀ b∈fp,H' b=none)/\W i n ys σ' H') ?_ m0
   ⟨0,_,H2,[],#[],_,I3,⟨_,hacc⟩,.nil,Jj _,st3,fun b hb=>(f2 b hb).1,w0⟩
  rintro n s5 ⟨i,σ5,H5,ys,its,o,I5,pl5,v5,z5,st5,fr5,w5⟩
  have one:∀ {o:Obj},∀ p∈[(D,o)],p.1=D:=fun p hp=>by
   have e:=Qo.mp hp
   rw [e]
  rcases turn i n ys σ5 H5 w5 with ⟨stop,qn⟩ | ⟨go,N,hN,step⟩
  ·refine wpAny_mono (T.done (aP X scope (own++frn) C s2 H2 fp) rfl rfl rfl hc i _ s5 σ5 H5 (fun _ _=>False) I5 (stat one fr5) st5 stop) (fun r s6 hx9=>?_) fun _ _ z=>z
   obtain ⟨hr,I6⟩:=hx9
   subst hr
   obtain ⟨m6,hn6,_⟩:=I6.loc
   have p6:=I6.pin (D,o) (by simp [aP])
   have p5':=I5.pin (D,o) (by simp [aP])
   have pl6:s6.heap.PlainList D its:=by
    obtain ⟨k,e⟩:=pl5
    have e1:o=_:=Option.some.inj (p5'.1.symm.trans e)
    exact ⟨k,by rw [p6.1]; exact congrArg some e1⟩
   have IX:Inv X pins σ H5 s6:=I2.call' (ch:=fp) I6.os I6.base I6.hok I6.bare fun b hb=>⟨(f2 b hb).2.2.2.1,(f2 b hb).2.1,(f2 b hb).2.2.2.2.1,(f2 b hb).2.2.2.2.2⟩
   exact hRR C D s6 H5 ys its m6 hCle (Qk _) hDC hn6 I6.free p6.2.1 pl6 v5 z5 IX qn
  ·refine wpAny_mono (T.item (aP X scope (own++frn) C s2 H2 fp) rfl rfl rfl hc i _ s5 σ5 H5 (fun _ _=>False) I5 (stat one fr5) st5 go) (fun r s6 hx9=>?_) fun _ _ z=>z
   obtain ⟨u,hr,h6⟩:=hx9
   subst hr
   refine wpAny_mono h6 (fun _ s7 hx9=>?_) fun _ _ z=>z
   obtain ⟨x,H7,I7,r7,y7,st7,fr7⟩:=hx9
   have I7':=I7.pinned (stat one fr7) (T.obj _ _ st7)
   refine wpAny_mono (hg C s2 H2 fp _ s7 σ5 H7 x u _ I7' r7 (step x H7 y7)) (fun _ s8 hx9=>?_) fun _ _ z=>z
   obtain ⟨σ8,H8,I8,q8⟩:=hx9
   refine wpAny_mono (ht C s2 H2 fp _ s8 σ8 H8 _ I8 q8) (fun b s9 hx9=>?_) fun _ _ z=>z
   obtain ⟨H9,I9,q9⟩:=hx9
   -- what stands of the iterator and of the gathered list behind the tests,behind the item
   have keepT:∀ {H':Hp} {s':Shared} {σ':St},Inv (aP X scope (own++frn) C s2 H2 fp) ([(D,o)]++jU fp s7.heap) σ' H' s'->tn (i+1) s'.heap/\(∀ b∈fp,H' b=none)/\s'.heap.PlainList D its/\H' D=none:=fun {H' s' σ'} I'=>by
    refine ⟨T.keep _ _ _ st7 fun b hb o e=>(I'.pin (b,o) (Qj _ (Qj _ (bY hb e)))).1,fun b hb=>?_,?_,?_⟩
    ·obtain ⟨o,e,d⟩:=T.obj _ _ st7 b hb
     exact (I'.pin (b,o) (Qj _ (Qj _ (bY hb e)))).2.1
    ·have p':=I'.pin (D,o) (by simp [aP])
     have p5':=I5.pin (D,o) (by simp [aP])
     obtain ⟨k,e⟩:=pl5
     have e1:o=_:=Option.some.inj (p5'.1.symm.trans e)
     exact ⟨k,by rw [p'.1]; exact congrArg some e1⟩
    ·exact (I'.pin (D,o) (by simp [aP])).2.1
   cases b with
   | false =>
    rw [if_neg Qw] at q9
    rw [if_neg Qw]
    obtain ⟨m',hm,w'⟩:=hN ys σ8 H9 q9
    obtain ⟨t9,fr9,pl9,_⟩:=keepT I9
    exact ⟨m',hm,i+1,σ8,H9,ys,its,o,I9.unpinned,pl9,v5,z5,t9,fr9,w'⟩
   | true =>
    rw [if_pos rfl] at q9
    rw [if_pos rfl]
    refine wpAny_mono (he C s2 H2 fp _ s9 σ8 H9 _ I9 q9) (fun y s10 hx9=>?_) fun _ _ z=>z
    obtain ⟨yv,H10,I10,r10,lt10,q10⟩:=hx9
    obtain ⟨t10,fr10,pl10,hD10⟩:=keepT I10
    have hl:=v5.length
    refine wpAny_list_append_plain pl10 (fun h11 pl11 sb11=>?_) (by rw [<- Array.length_toList,<- hl]; exact Zo lt10)
    obtain ⟨m',hm,w'⟩:=hN _ σ8 H10 q10
    have I10':Inv (aP X scope (own++frn) C s2 H2 fp) [] σ8 H10 s10:=I10.pins_of fun p hp=>by cases hp
    have I11:Inv (aP X scope (own++frn) C s2 H2 fp) [] σ8 H10 { s10 with heap:=h11 } :=
     I10'.turned (t':=s10.toks) (it:=D) (fun b o hb e=>(sb11.2 b hb).trans e) hD10 hDC (.inr (by show s2.heap.objs.size<=D; rw [hDg]; exact Qk _)) cD (fun p hp=>by simp [aP] at hp)
    obtain ⟨k11,e11⟩:=id pl11
    have DfsX:D∉frs X.stack:=fun z=>by
     rcases Qp.mp (I2.stkSub D z) with e | e
     ·exact Qu _ (Qi I2.lt (by rw [hDg,e]; exact Qk _))
     ·exact I2.nofs (by rw [hDg]; exact Qk _) e
    refine ⟨m',hm,i+1,σ8,H10,ys++[yv],its.push y,{ cls:=.type "list",data:=.seq (its.push y) k11 },I11.pins_of fun p hp=>?_,pl11,?_,by rw [Qr]; show ys.length+1<=_; omega,T.keep _ _ _ t10 fun b hb o e=>(sb11.2 b (below b (flt b hb)).2).trans e,fr10,w'⟩
    ·have e:=Qo.mp hp
     subst e
     exact ⟨e11,hD10,hDC,DfsX,fun v z=>by cases z⟩
    ·rw [Array.toList_push]
     exact v5.append (.cons r10 .nil)
 exact codeAny_compStart_list (loop _ rfl) (T.self X.A 0 _ _ _ st3 (loop _ rfl))
theorem CompOk.clo {pins:List (Addr×Obj)} {σ:St} {H:Hp} {s:Shared} (S:CompOk X scope own fr frn) (I:Inv X pins σ H s):closureFor scope X.env=pure (bZ X.env scope.names []):=by
 obtain ⟨p1,p2,p3,p4,p5,p6,p7⟩:=S.parts
 exact yD fun y hy e=>I.ok.has y.1 (p4 y hy e)
theorem cO (S:CompOk X scope own fr frn) (hc:X.calm=true) (hi:PI X tg iter wi) (hg:∀ C s0 H0 fp,PG (aP X scope (own++frn) C s0 H0 fp) tg g) (ht:∀ C s0 H0 fp,PF (aP X scope (own++frn) C s0 H0 fp) ifs tt)
  (he:∀ C s0 H0 fp,PE (aP X scope (own++frn) C s0 H0 fp) elt te) (hs:∀ x,foldedSetIterable iter X.env x=pure x:=by intro _; rfl) :
  PE X (.ListComp elt [⟨tg,iter,ifs,0⟩] scope pos) (zR own.length fr wi g tt te):=by
 intro pins s σ H Q I h
 obtain ⟨p1,p2,p3,p4,p5,p6,p7⟩:=S.parts
 rw [eval_ListComp]
 refine wpAny_comprehension_free (use:=none) rfl hs (S.clo I) p1 p3 (thn (hi pins s σ H _ I h) fun v s1 h1=>thn h1 fun itv s2 h2=>?_)
 obtain ⟨it,fp,tn,J,H2,e,I2,T,st2,f2,hw⟩:=h2
 subst e
 refine pU (RR:=fun acc C=>compPost (model X.prog X.w) X.A X.xe none (EP X pins σ Q) acc C) (Q:=fun H ys=>∀ p,H p=none->Q (.ref p) (upd H p (.lst ys))) S hc I2 T st2 f2 hg ht he hw ?_
 intro C D s' H' ys its m hC hD hDC hns hHC hHD pl v z IX q
 have cne:∀ a,s2.heap.objs.size<=a->∀ x c,X.env.cells.lookup x=some c->c≠a:=fun a ha x c e z=>by
  obtain ⟨v,w⟩:=I2.cell x c e
  exact Qu _ (Qi w.lt (by rw [z]; exact ha))
 have pne:∀ a,s2.heap.objs.size<=a->∀ p∈X.pn++pins,p.1≠a:=fun a ha p hp z=>Qu _ (Qi (Qm (I2.pin p hp).1) (by rw [z]; exact ha))
 have lne:∀ a,s2.heap.objs.size<=a->a≠X.env.locals:=fun a ha z=>Qu _ (Qi I2.lt (by rw [<- z]; exact ha))
 refine ⟨m,hns,fun h' hs'=>⟨.ref D,upd H' D (.lst ys),?_,rfl,q D hHD⟩⟩
 have IT:Inv X pins σ (upd H' D (.lst ys)) s':=IX.track pl v z hHD (lne D hD) (Qv I2.sz hD) (cne D hD) (pne D hD)
 exact IT.turned (t':=s'.toks) (it:=C) (fun b o hb e=>(hs'.2 b hb).trans e) (by rw [aG (Ne.symm hDC)]; exact hHC) (lne C hC) (.inr (Qv I2.sz hC)) (cne C hC) (pne C hC)
theorem eP {i:Nat} {y:Str} {py spos:Pos} (S:CompOk X scope own fr frn) (hc:X.calm=true) (hN:X.N.Nodup) (hyi:X.N[i]?=some y) (hx:X.env.scope.names.lookup y=some .local)
  (hsw:swapsWith (.ListComp elt [⟨tg,iter,ifs,0⟩] scope pos) (some (.Name y py)) spos.line X.env=pure true)
  (hi:PI X tg iter wi) (hg:∀ C s0 H0 fp,PG (aP X scope (own++frn) C s0 H0 fp) tg g) (ht:∀ C s0 H0 fp,PF (aP X scope (own++frn) C s0 H0 fp) ifs tt)
  (he:∀ C s0 H0 fp,PE (aP X scope (own++frn) C s0 H0 fp) elt te) (hs:∀ x,foldedSetIterable iter X.env x=pure x:=by intro _; rfl) :
  PS X (.Assign [.Name y py] (.ListComp elt [⟨tg,iter,ifs,0⟩] scope pos) spos) (aC6 (zR own.length fr wi g tt te) (bN i)):=by
 intro pins s σ H D I h
 obtain ⟨p1,p2,p3,p4,p5,p6,p7⟩:=S.parts
 rw [exec_Assign_Name_used _ _ _ _ hsw]
 refine wpAny_bind (wpAny_standAt (wpAny_bind ?_))
 show wpAny _ X.A (do let _<-comprehension (.ListComp elt [⟨tg,iter,ifs,0⟩] scope pos) scope X.env _ (newList []) false (eval iter X.env) (some (assign (.Name y py) X.env))) _ _ s
 refine wpAny_bind (wpAny_mono (wpAny_comprehension_free (use:=some (assign (.Name y py) X.env)) (Q:=fun _ s'=>SP X pins D .next s') rfl hs (S.clo I) p1 p3 (thn (hi pins s σ H _ I h) fun v s1 h1=>thn h1 fun itv s2 h2=>?_))
  (fun _ s' hq=>wpAny_pure (wpAny_pure hq)) fun _ _ e=>e)
 obtain ⟨it,fp,tn,J,H2,e,I2,T,st2,f2,hw⟩:=h2
 subst e
 refine pU (RR:=fun acc C=>compPost (model X.prog X.w) X.A X.xe (some (assign (.Name y py) X.env)) (fun _ s'=>SP X pins D .next s') acc C) (Q:=fun H ys=>∀ p,H p=none->D.nx (σ.set i (some (.ref p))) (upd H p (.lst ys))) S hc I2 T st2 f2 hg ht he hw ?_
 intro C L s' H' ys its m hC hL hLC hns hHC hHL pl v z IX q
 have cne:∀ a,s2.heap.objs.size<=a->∀ x c,X.env.cells.lookup x=some c->c≠a:=fun a ha x c e z=>by
  obtain ⟨v,w⟩:=I2.cell x c e
  exact Qu _ (Qi w.lt (by rw [z]; exact ha))
 have pne:∀ a,s2.heap.objs.size<=a->∀ p∈X.pn++pins,p.1≠a:=fun a ha p hp z=>Qu _ (Qi (Qm (I2.pin p hp).1) (by rw [z]; exact ha))
 have lne:∀ a,s2.heap.objs.size<=a->a≠X.env.locals:=fun a ha z=>Qu _ (Qi I2.lt (by rw [<- z]; exact ha))
 have IT:Inv X pins σ (upd H' L (.lst ys)) s':=IX.track pl v z hHL (lne L hL) (Qv I2.sz hL) (cne L hL) (pne L hL)
 show wpAny _ _ (assign (.Name y py) X.env (.ref L)) _ _ s'
 refine wpAny_assign_Name (nJ IT hN hyi (.inl hx) (v:=.ref L) rfl (fun s'' I'' hch=>?_) (.inr hx))
 obtain ⟨a,sb,ha⟩:=hch
 have hCa:C≠a:=by
  rcases ha with e | e
  ·rw [e]; exact lne C hC
  ·exact Ne.symm (cne C hC y a e)
 refine ⟨m,hns.sameBut sb hCa,fun h' hs'=>⟨σ.set i (some (.ref L)),upd H' L (.lst ys),?_,q L hHL⟩⟩
 exact I''.turned (t':=s''.toks) (it:=C) (fun b o hb e=>(hs'.2 b hb).trans e) (by rw [aG (Ne.symm hLC)]; exact hHC) (lne C hC) (.inr (Qv I2.sz hC)) (cne C hC) (pne C hC)
end
inductive Kd where
 | int | bl | non | str | tup | lst | dct
 deriving DecidableEq
def KdV (K:PySem.W.Frag) (H:Hp):V->Kd->Prop
 | .int _,k=>k=.int
 | .bl _,k=>k=.bl
 | .non,k=>k=.non
 | .str _,k=>k=.str
 | .ref p,k=>(k=.lst/\∃ xs,SqL K H p xs)∨(k=.tup/\∃ xs,SqT K H p xs)∨(k=.dct/\∃ kvs,H p=some (.dK kvs))
 | _,_=>False
section
variable {X:Cx}
theorem yF {pins:List (Addr×Obj)} {σ:St} {H:Hp} {s:Shared} {p:Addr} {kvs:List (Key×V)} (I:Inv X pins σ H s) (h:H p=some (.dK kvs)):∃ o,s.heap.get? p=some o/\o.cls=.type "dict" := by
 obtain ⟨_,_,vs,_,o,es,ep,e,ex,_⟩:=I.hok p _ h
 exact ⟨o,e,ex.1⟩
theorem mO:fY X (.builtin "isinstance") (fun xs H Q=>∃ x k,xs = [x,.ty "int"]/\KdV X.K H x k/\Q (.bl (decide (k=.int∨k=.bl))) H):=by
 intro pins s σ H xs us Q I r h
 obtain ⟨x,k,rfl,hk,q⟩:=h
 obtain ⟨u,t,rfl,rx,rt⟩:=mL r
 cases rt
 cases x with
 | int i=>cases hk; obtain ⟨t,rfl⟩:=rx; exact IsiPair.int_int ⟨.bl true,H,I,rfl,q⟩
 | bl b=>cases hk; cases rx; exact IsiPair.bool_int ⟨.bl true,H,I,rfl,q⟩
 | non=>cases hk; cases rx; exact IsiPair.NoneType_int ⟨.bl false,H,I.tok _,rfl,q⟩
 | str y=>cases hk; obtain ⟨t,rfl⟩:=rx; exact IsiPair.str_int ⟨.bl false,H,I.tok _,rfl,q⟩
 | ref p =>
  cases rx
  rcases hk with ⟨rfl,xs,hx⟩ | ⟨rfl,xs,hx⟩ | ⟨rfl,kvs,hx⟩
  ·obtain ⟨its,r',pl,hz⟩:=I.list hx; exact IsiPair.isList_int pl.isList (fun _ _ e=>e) ⟨.bl false,H,I.tok _,rfl,q⟩
  ·obtain ⟨its,r',pl,hz⟩:=I.tuple hx; exact IsiPair.isTuple_int pl (fun _ _ e=>e) ⟨.bl false,H,I.tok _,rfl,q⟩
  ·obtain ⟨o,e,c⟩:=yF I hx; exact IsiPair.dict_int e c ⟨.bl false,H,I.tok _,rfl,q⟩
 | _=>exact hk.elim
theorem lX:fY X (.builtin "isinstance") (fun xs H Q=>∃ x k,xs = [x,.ty "bool"]/\KdV X.K H x k/\Q (.bl (decide (k=.bl))) H):=by
 intro pins s σ H xs us Q I r h
 obtain ⟨x,k,rfl,hk,q⟩:=h
 obtain ⟨u,t,rfl,rx,rt⟩:=mL r
 cases rt
 cases x with
 | int i=>cases hk; obtain ⟨t,rfl⟩:=rx; exact IsiPair.int_bool ⟨.bl false,H,I.tok _,rfl,q⟩
 | bl b=>cases hk; cases rx; exact IsiPair.bool_bool ⟨.bl true,H,I,rfl,q⟩
 | non=>cases hk; cases rx; exact IsiPair.NoneType_bool ⟨.bl false,H,I.tok _,rfl,q⟩
 | str y=>cases hk; obtain ⟨t,rfl⟩:=rx; exact IsiPair.str_bool ⟨.bl false,H,I.tok _,rfl,q⟩
 | ref p =>
  cases rx
  rcases hk with ⟨rfl,xs,hx⟩ | ⟨rfl,xs,hx⟩ | ⟨rfl,kvs,hx⟩
  ·obtain ⟨its,r',pl,hz⟩:=I.list hx; exact IsiPair.isList_bool pl.isList (fun _ _ e=>e) ⟨.bl false,H,I.tok _,rfl,q⟩
  ·obtain ⟨its,r',pl,hz⟩:=I.tuple hx; exact IsiPair.isTuple_bool pl (fun _ _ e=>e) ⟨.bl false,H,I.tok _,rfl,q⟩
  ·obtain ⟨o,e,c⟩:=yF I hx; exact IsiPair.dict_bool e c ⟨.bl false,H,I.tok _,rfl,q⟩
 | _=>exact hk.elim
theorem fJ:fY X (.builtin "isinstance") (fun xs H Q=>∃ x k,xs = [x,.ty "tuple"]/\KdV X.K H x k/\Q (.bl (decide (k=.tup))) H):=by
 intro pins s σ H xs us Q I r h
 obtain ⟨x,k,rfl,hk,q⟩:=h
 obtain ⟨u,t,rfl,rx,rt⟩:=mL r
 cases rt
 cases x with
 | int i=>cases hk; obtain ⟨t,rfl⟩:=rx; exact IsiPair.int_tuple ⟨.bl false,H,I.tok _,rfl,q⟩
 | bl b=>cases hk; cases rx; exact IsiPair.bool_tuple ⟨.bl false,H,I.tok _,rfl,q⟩
 | non=>cases hk; cases rx; exact IsiPair.NoneType_tuple ⟨.bl false,H,I.tok _,rfl,q⟩
 | str y=>cases hk; obtain ⟨t,rfl⟩:=rx; exact IsiPair.str_tuple ⟨.bl false,H,I.tok _,rfl,q⟩
 | ref p =>
  cases rx
  rcases hk with ⟨rfl,xs,hx⟩ | ⟨rfl,xs,hx⟩ | ⟨rfl,kvs,hx⟩
  ·obtain ⟨its,r',pl,hz⟩:=I.list hx; exact IsiPair.isList_tuple pl.isList (fun _ _ e=>e) ⟨.bl false,H,I.tok _,rfl,q⟩
  ·obtain ⟨its,r',pl,hz⟩:=I.tuple hx; exact IsiPair.isTuple_tuple pl (fun _ _ e=>e) ⟨.bl true,H,I,rfl,q⟩
  ·obtain ⟨o,e,c⟩:=yF I hx; exact IsiPair.dict_tuple e c ⟨.bl false,H,I.tok _,rfl,q⟩
 | _=>exact hk.elim
theorem aAI (bs:List Bool) (tr:Nat->Bool) (h:∀ i b,bs[i]?=some b->tr i=b):(List.range bs.length).all tr=bs.all id:=by
 rw [Xm,Jb,Jb]
 constructor
 ·intro q b hb
  obtain ⟨i,hi⟩:=Wz hb
  have:=q i (Jt.mpr (Qd.mp hi).1)
  rw [h i b hi] at this
  exact this
 ·intro q i hi
  have hi':=Jt.mp hi
  have e:bs[i]?=some bs[i]:=Qb hi'
  rw [h i _ e]
  exact q _ (Zx hi')
theorem pV (hc:X.calm=true):fY X (.builtin "all") (fun xs H Q=>∃ (p:Addr) (bs:List Bool),xs = [.ref p]/\SqL X.K H p (bs.map V.bl)/\Q (.bl (bs.all id)) H):=by
 intro pins s σ H xs us Q I r h
 obtain ⟨p,bs,rfl,hx,q⟩:=h
 obtain ⟨u,rfl,rx⟩:=jJ r
 cases rx
 obtain ⟨its,rv,pl,hz⟩:=I.list hx
 have hl:=rv.length
 rw [Qa] at hl
 have hlt:p < s.heap.objs.size:=by obtain ⟨o,n,e,_⟩:=pl; exact Qm e
 refine call_all_walk (wpAny_pyIter_list pl.isList ?_)
 refine ⟨s.heap.objs.size,_,_,_,_,_,fun i=>(bs[i]?).getD false,rfl,Walks.list (A:=X.A.in1) (I.ok.hd hc) s.heap.objs.size p (Jq hlt) its.toArray,⟨⟨_,Qq _ rfl,rfl,rfl⟩,pl.isList.push _⟩,?_,fun h' tk hk=>?_⟩
 ·intro i v s' Q' E' hP hQ'
  have hP':its[i]?=some v:=by simpa using hP
  have hi:i < bs.length:=by rw [hl]; exact (Qd.mp hP').1
  obtain ⟨w,hw,rw'⟩:=rv.get (i:=i) (x:=.bl bs[i]) (by rw [Qe,Qb hi]; rfl)
  rw [hw] at hP'
  cases hP'
  cases rw'
  have e:(bs[i]?).getD false=bs[i]:=by rw [Qb hi]; rfl
  rw [<- e]
  exact wpAny_truthy_bool hQ'
 ·have e:(List.range its.toArray.size).all (fun i=>(bs[i]?).getD false)=bs.all id:=by
   rw [Qs,<- hl]
   exact aAI bs _ fun i b hb=>by rw [hb]; rfl
  rw [e]
  refine ⟨.bl _,H,I.kept (h':=h') fun b o e=>hk b o ?_ (Qc _ e),rfl,q⟩
  intro z
  have z':b=s.heap.objs.size:=by simpa using z
  exact Qu _ (z' ▸ Qm e)
def aD (ns:List Int):Int:=ns.foldr (· + ·) 0
theorem kZ (ns:List Int) (val:Nat->Int) (h:∀ (i:Nat) (v:Int),ns[i]?=some v->val i=v):∀ j,j<=ns.length->preSum val j=aD (ns.take j)
 | 0,_=>rfl
 | j+1,hj=>by
  have ih:=kZ ns val h j (by omega)
  have e:ns[j]?=some ns[j]:=Qb (by omega)
  show preSum val j+val j=_
  rw [ih,h j _ e,Yh,e]
  unfold aD
  rw [List.foldr_append]
  simp only [Option.toList_some,List.foldr_cons,List.foldr_nil,Zp]
  generalize ns[j]=v
  induction (List.take j ns) with
  | nil=>simp
  | cons a l ih2=>simp only [List.foldr_cons]; omega
theorem aBH (hc:X.calm=true):fY X (.builtin "sum") (fun xs H Q=>∃ (p:Addr) (ns:List Int),xs = [.ref p]/\SqL X.K H p (ns.map V.int)/\(∀ n∈ns,0<=n/\n < 1000000)/\ns.length<=1000000/\Q (.int (aD ns)) H):=by
 intro pins s σ H xs us Q I r h
 obtain ⟨p,ns,rfl,hx,hb,hlen,q⟩:=h
 obtain ⟨u,rfl,rx⟩:=jJ r
 cases rx
 obtain ⟨its,rv,pl,hz⟩:=I.list hx
 have hl:=rv.length
 rw [Qa] at hl
 have hlt:p < s.heap.objs.size:=by obtain ⟨o,n,e,_⟩:=pl; exact Qm e
 have hval:∀ (i:Nat) (v:Int),ns[i]?=some v->(ns[i]?).getD 0=v:=fun i v e=>by rw [e]; rfl
 have bnd:∀ (ms:List Int),(∀ n∈ms,0<=n/\n < 1000000)->0<=aD ms/\aD ms<=ms.length*1000000:=fun ms=>by
  induction ms with
  | nil=>intro _; exact ⟨Jw _,Jw _⟩
  | cons a l ih =>
   intro hh
   have h1:=hh a Qg
   have h2:=ih fun n hn=>hh n (Ql _ hn)
   have e:aD (a::l)=a+aD l:=rfl
   rw [e,Jl]
   rw [Yq]
   omega
 refine call_sum_walk (wpAny_pyIter_list pl.isList ?_)
 refine ⟨s.heap.objs.size,_,_,_,_,_,fun i=>(ns[i]?).getD 0,rfl,Walks.list (A:=X.A.in1) (I.ok.hd hc) s.heap.objs.size p (Jq hlt) its.toArray,⟨⟨_,Qq _ rfl,rfl,rfl⟩,pl.isList.push _⟩,?_,?_,?_,fun h' tk t' hk=>?_⟩
 ·intro b hb'
  rw [Xf]
  rcases Qp.mp hb' with e | e
  ·rw [e]; exact Nat.lt_succ_self _
  ·have e':b=p:=by simpa using e
   rw [e']; exact Nat.lt_succ_of_lt hlt
 ·intro i v hP
  have hP':its[i]?=some v:=by simpa using hP
  have hi:i < ns.length:=by rw [hl]; exact (Qd.mp hP').1
  obtain ⟨w,hw,rw'⟩:=rv.get (i:=i) (x:=.int ns[i]) (by rw [Qe,Qb hi]; rfl)
  rw [hw] at hP'
  cases hP'
  obtain ⟨t,rfl⟩:=rw'
  exact ⟨t,by show Value.int ns[i] t=Value.int ((ns[i]?).getD 0) t; rw [Qb hi]; rfl⟩
 ·intro j hj
  have hj':j < ns.length:=by rw [hl]; simpa using hj
  have e:ns[j]?=some ns[j]:=Qb hj'
  have h1:=hb _ (Zx hj')
  have h2:=bnd (ns.take (j+1)) fun n hn=>hb n (Ze hn)
  rw [kZ ns _ hval (j+1) (by omega)]
  have h3:(ns.take (j+1)).length<=1000000:=by rw [Jk]; omega
  unfold InLong
  have e5:(fun i:Nat=>(ns[i]?).getD 0) j=ns[j]:=by show (ns[j]?).getD 0=_; rw [e]; rfl
  rw [e5]
  have h4:((ns.take (j+1)).length:Int)*1000000<=1000000*1000000:=by omega
  omega
 ·have e:preSum (fun i=>(ns[i]?).getD 0) its.toArray.size=aD ns:=by
   rw [Qs,<- hl,kZ ns _ hval ns.length (Qk _),Js]
  rw [e]
  refine ⟨.int _,H,I.kept (h':=h') fun b o e=>hk b o ?_ (Qc _ e),⟨_,rfl⟩,q⟩
  intro z
  have z':b=s.heap.objs.size:=by simpa using z
  exact Qu _ (z' ▸ Qm e)
end
mutual
def Den (K:PySem.W.Frag) (H:Hp):PyData->V->Prop
 | .none,v=>v=.non
 | .bool b,v=>v=.bl b
 | .int i,v=>v=.int i
 | .str x,v=>v=.str x
 | .list ds,v=>∃ a xs,v=.ref a/\SqL K H a xs/\aR K H ds xs
 | .tuple ds,v=>∃ a xs,v=.ref a/\SqT K H a xs/\aR K H ds xs
 | .dict kvs,v=>kvs = []/\∃ a,v=.ref a/\H a=some (.dK [])
def aR (K:PySem.W.Frag) (H:Hp):List PyData->List V->Prop
 | [],xs=>xs = []
 | d::ds,xs=>∃ x r,xs=x::r/\Den K H d x/\aR K H ds r
end
theorem aE.rd {H H':Hp} {a:Addr} {u:HO} (e:aE H H') (h:Rd H a u):Rd H' a u:=by
 rcases h with h | ⟨o,h⟩
 ·exact .inl (e a u h)
 ·exact .inr ⟨o,e a _ h⟩
theorem aE.seqL {K:PySem.W.Frag} {H H':Hp} {a:Addr} {xs:List V} (e:aE H H') (h:SqL K H a xs):SqL K H' a xs:=by
 rcases h with h | h
 ·exact .inl (e.rd h)
 ·exact .inr h
theorem aE.seqT {K:PySem.W.Frag} {H H':Hp} {a:Addr} {xs:List V} (e:aE H H') (h:SqT K H a xs):SqT K H' a xs:=by
 rcases h with h | h
 ·exact .inl (e.rd h)
 ·exact .inr h
theorem aE.new {H:Hp} {p:Addr} {o:HO} (h:H p=none):aE H (upd H p o):=fun b u e=>by rw [aG (cT e h)]; exact e
mutual
theorem aE.den {K:PySem.W.Frag} {H H':Hp} (e:aE H H'):∀ (d:PyData) (v:V),Den K H d v->Den K H' d v
 | .none,v,h=>by unfold Den at h ⊢; exact h
 | .bool b,v,h=>by unfold Den at h ⊢; exact h
 | .int i,v,h=>by unfold Den at h ⊢; exact h
 | .str x,v,h=>by unfold Den at h ⊢; exact h
 | .list ds,v,h=>by unfold Den at h ⊢; obtain ⟨a,xs,h1,h2,h3⟩:=h; exact ⟨a,xs,h1,e.seqL h2,aE.denAll e ds xs h3⟩
 | .tuple ds,v,h=>by unfold Den at h ⊢; obtain ⟨a,xs,h1,h2,h3⟩:=h; exact ⟨a,xs,h1,e.seqT h2,aE.denAll e ds xs h3⟩
 | .dict kvs,v,h=>by unfold Den at h ⊢; obtain ⟨h1,a,h2,h3⟩:=h; exact ⟨h1,a,h2,e a _ h3⟩
theorem aE.denAll {K:PySem.W.Frag} {H H':Hp} (e:aE H H'):∀ (ds:List PyData) (xs:List V),aR K H ds xs->aR K H' ds xs
 | [],xs,h=>by unfold aR at h ⊢; exact h
 | d::ds,xs,h=>by unfold aR at h ⊢; obtain ⟨x,r,h1,h2,h3⟩:=h; exact ⟨x,r,h1,aE.den e d x h2,aE.denAll e ds r h3⟩
end
section
variable {K:PySem.W.Frag} {H:Hp}
theorem dJ {i:Int} {v:V}:Den K H (.int i) v↔v=.int i:=by unfold Den; exact Iff.rfl
theorem vS {b:Bool} {v:V}:Den K H (.bool b) v↔v=.bl b:=by unfold Den; exact Iff.rfl
theorem vT {v:V}:Den K H .none v↔v=.non:=by unfold Den; exact Iff.rfl
theorem zS {x:Str} {v:V}:Den K H (.str x) v↔v=.str x:=by unfold Den; exact Iff.rfl
theorem lA {ds:List PyData} {v:V}:Den K H (.list ds) v↔∃ a xs,v=.ref a/\SqL K H a xs/\aR K H ds xs:=by
 constructor
 ·intro h; unfold Den at h; exact h
 ·intro h; unfold Den; exact h
theorem bJ {ds:List PyData} {v:V}:Den K H (.tuple ds) v↔∃ a xs,v=.ref a/\SqT K H a xs/\aR K H ds xs:=by
 constructor
 ·intro h; unfold Den at h; exact h
 ·intro h; unfold Den; exact h
theorem aBI {kvs:List (PyData×PyData)} {v:V}:Den K H (.dict kvs) v↔kvs = []/\∃ a,v=.ref a/\H a=some (.dK []):=by
 constructor
 ·intro h; unfold Den at h; exact h
 ·intro h; unfold Den; exact h
theorem aN {xs:List V}:aR K H [] xs↔xs = []:=by unfold aR; exact Iff.rfl
theorem aK {d:PyData} {ds:List PyData} {xs:List V}:aR K H (d::ds) xs↔∃ x r,xs=x::r/\Den K H d x/\aR K H ds r:=by
 constructor
 ·intro h; unfold aR at h; exact h
 ·intro h; unfold aR; exact h
theorem aM:∀ {ds:List PyData} {xs:List V},aR K H ds xs->xs.length=ds.length
 | [],xs,h=>by rw [aN.mp h]; rfl
 | d::ds,xs,h=>by
  obtain ⟨x,r,rfl,_,h3⟩:=aK.mp h
  rw [Jl,Jl,aM h3]
theorem pW:∀ {ds:List PyData} {xs:List V} {i:Nat} {d:PyData},aR K H ds xs->ds[i]?=some d->∃ x,xs[i]?=some x/\Den K H d x
 | [],_,_,_,_,e=>by simp at e
 | d::ds,xs,0,d',h,e=>by
  obtain ⟨x,r,rfl,h2,_⟩:=aK.mp h
  simp at e; subst e
  exact ⟨x,rfl,h2⟩
 | d::ds,xs,i+1,d',h,e=>by
  obtain ⟨x,r,rfl,_,h3⟩:=aK.mp h
  obtain ⟨y,h4,h5⟩:=pW (i:=i) (d:=d') h3 (by simpa using e)
  exact ⟨y,by simpa using h4,h5⟩
theorem iV {ds:List PyData} {xs:List V} {i:Nat} {x:V} (h:aR K H ds xs) (e:xs[i]?=some x):∃ d,ds[i]?=some d/\Den K H d x:=by
 have hl:=aM h
 have hi:i < ds.length:=by rw [<- hl]; exact (Qd.mp e).1
 obtain ⟨y,h1,h2⟩:=pW h (Qb hi)
 rw [e] at h1; cases h1
 exact ⟨_,Qb hi,h2⟩
theorem bV:∀ {ds es:List PyData} {xs ys:List V},aR K H ds xs->aR K H es ys->aR K H (ds++es) (xs++ys)
 | [],es,xs,ys,h,h'=>by rw [aN.mp h]; exact h'
 | d::ds,es,xs,ys,h,h'=>by
  obtain ⟨x,r,rfl,h2,h3⟩:=aK.mp h
  exact aK.mpr ⟨x,r++ys,rfl,h2,bV h3 h'⟩
theorem gK:∀ {ns:List Int} {xs:List V},aR K H (ns.map PyData.int) xs↔xs=ns.map V.int
 | [],xs=>aN
 | n::ns,xs=>by
  rw [Jg,aK]
  constructor
  ·rintro ⟨x,r,rfl,h2,h3⟩
   rw [dJ.mp h2,gK.mp h3]
   rfl
  ·intro e
   exact ⟨_,_,e,dJ.mpr rfl,gK.mpr rfl⟩
theorem cM {ns:List Int} {v:V}:Den K H (.tuple (ns.map .int)) v↔∃ a,v=.ref a/\SqT K H a (ns.map V.int):=by
 rw [bJ]
 constructor
 ·rintro ⟨a,xs,rfl,h1,h2⟩
  rw [gK.mp h2] at h1
  exact ⟨a,rfl,h1⟩
 ·rintro ⟨a,rfl,h⟩
  exact ⟨a,_,rfl,h,gK.mpr rfl⟩
theorem tL {ns:List Int} {v:V}:Den K H (.list (ns.map .int)) v↔∃ a,v=.ref a/\SqL K H a (ns.map V.int):=by
 rw [lA]
 constructor
 ·rintro ⟨a,xs,rfl,h1,h2⟩
  rw [gK.mp h2] at h1
  exact ⟨a,rfl,h1⟩
 ·rintro ⟨a,rfl,h⟩
  exact ⟨a,_,rfl,h,gK.mpr rfl⟩
def mD:PyData->Kd
 | .none=>.non | .bool _=>.bl | .int _=>.int | .str _=>.str | .list _=>.lst | .tuple _=>.tup | .dict _=>.dct
theorem Den.kd {d:PyData} {v:V} (h:Den K H d v):KdV K H v (mD d):=by
 cases d with
 | none=>rw [vT.mp h]; rfl
 | bool b=>rw [vS.mp h]; rfl
 | int i=>rw [dJ.mp h]; rfl
 | str x=>rw [zS.mp h]; rfl
 | list ds=>obtain ⟨a,xs,rfl,h1,_⟩:=lA.mp h; exact .inl ⟨rfl,xs,h1⟩
 | tuple ds=>obtain ⟨a,xs,rfl,h1,_⟩:=bJ.mp h; exact .inr (.inl ⟨rfl,xs,h1⟩)
 | dict kvs=>obtain ⟨_,a,rfl,h1⟩:=aBI.mp h; exact .inr (.inr ⟨rfl,[],h1⟩)
end
section
variable {X:Cx} {pins:List (Addr×Obj)} {σ:St} {H:Hp} {s:Shared}
mutual
def iL:PyData->Bool
 | .dict _=>false
 | .list ds=>kI ds
 | .tuple ds=>kI ds
 | _=>true
def kI:List PyData->Bool
 | []=>true
 | d::ds=>iL d && kI ds
end
mutual
theorem Den.reads (I:Inv X pins σ H s):∀ (d:PyData) (v:V) (u:Value),iL d=true->Den X.K H d v->bD v u->∃ as,Reads s.heap u d as
 | .none,v,u,_,h,r=>by rw [vT.mp h] at r; cases r; exact ⟨_,.none⟩
 | .bool b,v,u,_,h,r=>by rw [vS.mp h] at r; cases r; exact ⟨_,.bool b⟩
 | .int i,v,u,_,h,r=>by rw [dJ.mp h] at r; obtain ⟨t,rfl⟩:=r; exact ⟨_,.int i t⟩
 | .str x,v,u,_,h,r=>by rw [zS.mp h] at r; obtain ⟨t,rfl⟩:=r; exact ⟨_,.str x t⟩
 | .list ds,v,u,hn,h,r=>by
  obtain ⟨a,xs,rfl,h1,h2⟩:=lA.mp h
  cases r
  obtain ⟨its,rv,⟨o,n,e,c,_,d⟩,_⟩:=I.list h1
  obtain ⟨as,ra⟩:=aR.reads I ds xs its (by unfold iL at hn; exact hn) h2 rv
  exact ⟨_,.list e c d (by simpa using ra)⟩
 | .tuple ds,v,u,hn,h,r=>by
  obtain ⟨a,xs,rfl,h1,h2⟩:=bJ.mp h
  cases r
  obtain ⟨its,rv,⟨o,e,c,n,d⟩,_⟩:=I.tuple h1
  obtain ⟨as,ra⟩:=aR.reads I ds xs its (by unfold iL at hn; exact hn) h2 rv
  exact ⟨_,.tuple e c d (by simpa using ra)⟩
 | .dict kvs,v,u,hn,_,_=>by unfold iL at hn; cases hn
theorem aR.reads (I:Inv X pins σ H s):∀ (ds:List PyData) (xs:List V) (us:List Value),kI ds=true->aR X.K H ds xs->bA xs us->∃ as,ReadsAll s.heap us ds as
 | [],xs,us,_,h,r=>by rw [aN.mp h] at r; cases r; exact ⟨_,.nil⟩
 | d::ds,xs,us,hn,h,r=>by
  obtain ⟨x,rr,rfl,h2,h3⟩:=aK.mp h
  unfold kI at hn
  rw [Jr] at hn
  cases r with
  | cons r1 r2 =>
   obtain ⟨as,ra⟩:=Den.reads I d x _ hn.1 h2 r1
   obtain ⟨bs,rb⟩:=aR.reads I ds rr _ hn.2 h3 r2
   exact ⟨_,.cons ra rb⟩
end
theorem aEW (hu:X.A.units+64 < cLine):OpR X (compareOp .Eq) (fun x y H Q=>∃ d e,Den X.K H d x/\Den X.K H e y/\iL d=true/\iL e=true/\SeqAt.shaped d=true/\SeqAt.shaped e=true/\Q (.bl (PyData.eqv d e)) H):=by
 intro pins s σ H x y v u Q I rx ry h
 obtain ⟨d,e,hd,he,n1,n2,s1,s2,q⟩:=h
 obtain ⟨as,ra⟩:=Den.reads I d x v n1 hd rx
 obtain ⟨bs,rb⟩:=Den.reads I e y u n2 he ry
 exact eq_dataH ra rb s1 s2 hu ⟨.bl _,H,I,rfl,q⟩
theorem aEX (hu:X.A.units+64 < cLine):OpR X (compareOp .NotEq) (fun x y H Q=>∃ d e,Den X.K H d x/\Den X.K H e y/\iL d=true/\iL e=true/\SeqAt.shaped d=true/\SeqAt.shaped e=true/\Q (.bl (!PyData.eqv d e)) H):=by
 intro pins s σ H x y v u Q I rx ry h
 obtain ⟨d,e,hd,he,n1,n2,s1,s2,q⟩:=h
 obtain ⟨as,ra⟩:=Den.reads I d x v n1 hd rx
 obtain ⟨bs,rb⟩:=Den.reads I e y u n2 he ry
 exact ne_dataH ra rb s1 s2 hu ⟨.bl _,H,I,rfl,q⟩
end
section
variable {prog:Program} {w:World} {A:Around} {E:Value->Shared->Prop} {s:Shared}
end
section
variable {X:Cx}
theorem vU:fY X (.type "range") (fun xs H Q=>∃ j,xs = [.int j]/\∀ p,H p=none->Q (.ref p) (upd H p (.rng 0 j))):=by
 intro pins s σ H xs us Q I r h
 obtain ⟨j,rfl,q⟩:=h
 obtain ⟨u,rfl,t,rfl⟩:=jJ r
 refine call_range_1 ⟨.ref s.heap.objs.size,_,I.laid (fun b o e=>Qc _ e) (Qk _) ?_,rfl,q _ (I.hok.fresh (Qk _))⟩
 exact ⟨_,_,_,Qq _ rfl⟩
def aO (n:Nat):List Int:=(List.range n).map fun (i:Nat)=>(i:Int)
end
def tab (L:Bool) (ns:List Nat):SetTable:={ mask:=7,place:=ns.toArray,dummies:=#[],finger:=0,led:=L,moves:=0,plain:=true }
def aFP (l:List (Nat×Tok)):Array (Int×Value):=(l.map fun p=>((p.1:Int),Value.int (p.1:Int) p.2)).toArray
theorem pt2:∀ (L:Bool) (k j:Fin 8),j < k->(tab L [k.val]).put j.val=(tab L [j.val,k.val],0):=by decide +kernel
theorem ft1:∀ (L:Bool) (k:Fin 8),(tab L [k.val]).fits 1=true:=by decide
theorem ft2:∀ (L:Bool) (k j:Fin 8),(tab L [k.val,j.val]).fits 2=true:=by decide +kernel
def SX (L:Bool) (h:Heap) (a:Addr) (l:List (Nat×Tok)):Prop:=∃ o ep,h.get? a=some o/\o.ExactSet/\o.data=.set (aFP l) ep (tab L (l.map (·.1)))
section
variable {prog:Program} {w:World} {A:Around} {E:Value->Shared->Prop} {s:Shared} {L:Bool} {a:Addr}
end
section
variable {prog:Program} {w:World} {A:Around} {E:Value->Shared->Prop} {s:Shared}
abbrev Led (w:World):Bool:=!(w.params.followText "set-order")
def two (a b:Nat) (t u:Tok):List (Nat×Tok):=if a=b then [(a,t)] else if a < b then [(a,t),(b,u)] else [(b,u),(a,t)]
theorem SX.keep {L:Bool} {h h':Heap} {a:Addr} {l:List (Nat×Tok)} (x:SX L h a l) (k:∀ o,h.get? a=some o->h'.get? a=some o):SX L h' a l:=by
 obtain ⟨o,ep,e,r⟩:=x
 exact ⟨o,ep,k o e,r⟩
end
def Okl (l:List (Nat×Tok)):Prop:=(∃ p,l = [p]/\p.1 < 8)∨∃ p q,l = [p,q]/\p.1 < q.1/\q.1 < 8
theorem Okl.fits {L:Bool} {l:List (Nat×Tok)} (h:Okl l):(tab L (l.map (·.1))).fits (aFP l).size=true:=by
 rcases h with ⟨p,rfl,h8⟩ | ⟨p,q,rfl,h1,h8⟩
 ·exact ft1 L ⟨p.1,h8⟩
 ·exact ft2 L ⟨p.1,by omega⟩ ⟨q.1,h8⟩
theorem pX {a b:Nat} {t u:Tok} (ha:a < 8) (hb:b < 8):Okl (two a b t u):=by
 unfold two
 by_cases h:a=b
 ·rw [if_pos h]; exact .inl ⟨_,rfl,ha⟩
 ·rw [if_neg h]
  by_cases h2:a < b
  ·rw [if_pos h2]; exact .inr ⟨_,_,rfl,h2,hb⟩
  ·rw [if_neg h2]; exact .inr ⟨_,_,rfl,by show b < a; omega,ha⟩
section
variable {prog:Program} {w:World} {A:Around} {E:Value->Shared->Prop} {s:Shared} {S:Addr} {o:Obj} {ep:Nat} {l:List (Nat×Tok)}
end
def aGw (w:World) (p:Addr) (a b:Nat):HO:=.ext fun h=>∃ t u,SX (Led w) h p (two a b t u)
section
variable {X:Cx}
end
structure Sub (prog:Program) (w:World) (i l:Addr) (n:Nat) (P:Nat->Value->Prop) (st:Nat->Heap->Prop):Prop where
 keep:∀ k h h',st k h->(∀ b,b=i∨b=l->∀ o,h.get? b=some o->h'.get? b=some o)->st k h'
 obj:∀ k h,st k h->(∃ o,h.get? i=some o/\∀ v,o.data≠.cell v)/\∃ o,h.get? l=some o
 item:∀ (A:Around) k (s:Shared) (Q:Value->Shared->Prop) (E:Value->Shared->Prop),k < n->st k s.heap->(∀ v h',P k v->st (k+1) h'->Heap.SameBut i s.heap h'->Q v { s with heap:=h' })->wpAny (model prog w) A (Builtin.SmallTypes.nextOf (.ref i)) Q E s
 done:∀ (A:Around) (s:Shared) (Q:Value->Shared->Prop) (E:Value->Shared->Prop),A.handled=none->st n s.heap->(∀ h' e,Heap.ExtBut i s.heap h'->(∃ o,h'.get? e=some o/\o.cls=.type "StopIteration")->E (.ref e) { s with heap:=h' }) ->
  wpAny (model prog w) A (Builtin.SmallTypes.nextOf (.ref i)) Q E s
theorem aBJ (prog:Program) (w:World) (i l:Addr) (items:Array Value) (hne:l≠i):Sub prog w i l items.size (fun k v=>items[k]?=some v) (fun k h=>h.IsListIter i l k/\h.IsList l items) where
 keep:=fun k h h' st kp=>⟨st.1.at fun o e=>kp i (.inl rfl) o e,st.2.at fun o e=>kp l (.inr rfl) o e⟩
 obj:=fun k h st=>by
  obtain ⟨⟨o,e,_,d⟩,⟨o2,e2,_⟩⟩:=st
  exact ⟨⟨o,e,fun v z=>by rw [d] at z; cases z⟩,o2,e2⟩
 item:=fun A k s Q E hk st hQ=>wpAny_nextOf_list_item st.1 st.2 (Array.getElem?_eq_getElem hk) fun h' a b=>hQ _ h' (Array.getElem?_eq_getElem hk) ⟨a,st.2.at fun o e=>b.extBut l o hne e⟩ b
 done:=fun A s Q E hh st hE=>wpAny_nextOf_list_end hh st.1 st.2 (Array.getElem?_eq_none (Qk _)) hE
theorem mP {prog:Program} {w:World} {A:Around} {E:Value->Shared->Prop} {s:Shared} {it t:Addr} {i:Nat} {items:Array Value} {x:Value} {Q:Value->Shared->Prop} (hit:s.heap.IsTupleIter it t i) (ht:s.heap.IsTuple t items) (hx:items[i]?=some x)
  (hQ:∀ h',h'.IsTupleIter it t (i+1)->Heap.SameBut it s.heap h'->Q x { s with heap:=h' }):wpAny (model prog w) A (Builtin.SmallTypes.nextOf (.ref it)) Q E s:=by
 obtain ⟨o,ho,hc,hd⟩:=id hit
 obtain ⟨ol,hol,_,nl,hdl⟩:=ht
 have hT:=hit.typeIs
 unfold Builtin.SmallTypes.nextOf
 refine wpAny_bind (wpAny_callSpecial?_slot (name:=Str.ofString "__next__") hT PySem.F.slot_tuple_iterator_next (wpAny_call_entry PySem.F.slot_tuple_iterator_next hT PySem.F.entry_tuple_iterator_next ?_ (PySem.F.args_tuple_iterator_next_1 _)))
 refine wpAny_bind (m:=field (.ref it) 0) (wpAny_field ho hd (x:=.ref t) rfl ?_)
 have hno:¬ ((Value.ref t==Value.none)=true):=Qw
 show wpAny _ _ (if (Value.ref t==Value.none)=true then _ else _) _ _ s
 rw [if_neg hno]
 refine wpAny_bind (m:=field (.ref it) 1) (wpAny_field ho hd (x:=.int i 0) rfl ?_)
 refine wpAny_bind (m:=seqItems? (.ref t)) (wpAny_seqItems hol hdl ?_)
 simp only [We,hx]
 refine wpAny_bind (wpAny_setField ho hd (by simp) (wpAny_pure ⟨x,rfl,wpAny_pure (hQ _ ?_ (Heap.SameBut.update ..))⟩))
 refine ⟨_,Zb _ ho (Obj.isFreed_of_fields (Obj.data_mapFields hd _)),(Obj.cls_mapFields ..).trans hc,?_⟩
 rw [Obj.data_mapFields hd]
 simp [rawInt]
theorem nO {prog:Program} {w:World} {A:Around} {E:Value->Shared->Prop} {s:Shared} {it t:Addr} {i:Nat} {items:Array Value} {Q:Value->Shared->Prop} (hh:A.handled=none) (hit:s.heap.IsTupleIter it t i) (ht:s.heap.IsTuple t items) (hx:items[i]?=none)
  (hE:∀ h' e,Heap.ExtBut it s.heap h'->(∃ o,h'.get? e=some o/\o.cls=.type "StopIteration")->E (.ref e) { s with heap:=h' }):wpAny (model prog w) A (Builtin.SmallTypes.nextOf (.ref it)) Q E s:=by
 obtain ⟨o,ho,hc,hd⟩:=id hit
 obtain ⟨ol,hol,_,nl,hdl⟩:=ht
 have hT:=hit.typeIs
 unfold Builtin.SmallTypes.nextOf
 refine wpAny_bind (wpAny_callSpecial?_slot (name:=Str.ofString "__next__") hT PySem.F.slot_tuple_iterator_next (wpAny_call_entry PySem.F.slot_tuple_iterator_next hT PySem.F.entry_tuple_iterator_next ?_ (PySem.F.args_tuple_iterator_next_1 _)))
 refine wpAny_bind (m:=field (.ref it) 0) (wpAny_field ho hd (x:=.ref t) rfl ?_)
 have hno:¬ ((Value.ref t==Value.none)=true):=Qw
 show wpAny _ _ (if (Value.ref t==Value.none)=true then _ else _) _ _ s
 rw [if_neg hno]
 refine wpAny_bind (m:=field (.ref it) 1) (wpAny_field ho hd (x:=.int i 0) rfl ?_)
 refine wpAny_bind (m:=seqItems? (.ref t)) (wpAny_seqItems hol hdl ?_)
 simp only [We,hx]
 refine wpAny_bind (wpAny_rule (wpAny_bind (wpAny_setField ho hd (by simp) ?_)))
 refine wpAny_bind (m:=newExc (.type "StopIteration") []) ?_
 simp only [newExc,newTuple]
 refine wpAny_bind (wpAny_newObj_type ?_ (by size_fits))
 refine wpAny_bind (m:=firstArgMember _ _) (wpAny_of_eq (a:=Value.none) (by first | rfl | (simp only [firstArgMember]; rfl)) ?_)
 refine wpAny_newObj_type ?_ (by size_fits)
 simp only [raiseNew]
 refine wpAny_bind (wpAny_handled ?_)
 first | rw [show A.in1.handled=none from hh] | rw [hh]
 refine wpAny_bind (wpAny_pure (wpAny_throw ?_))
 exact hE _ _ (((Heap.SameBut.update ..).extBut.push _).push _) ⟨_,Qq _ rfl,rfl⟩
theorem aAJ (prog:Program) (w:World) (i l:Addr) (items:Array Value) (hne:l≠i):Sub prog w i l items.size (fun k v=>items[k]?=some v) (fun k h=>h.IsTupleIter i l k/\h.IsTuple l items) where
 keep:=fun k h h' st kp=>⟨st.1.at fun o e=>kp i (.inl rfl) o e,by obtain ⟨o,e,r⟩:=st.2; exact ⟨o,kp l (.inr rfl) o e,r⟩⟩
 obj:=fun k h st=>by
  obtain ⟨⟨o,e,_,d⟩,⟨o2,e2,_⟩⟩:=st
  exact ⟨⟨o,e,fun v z=>by rw [d] at z; cases z⟩,o2,e2⟩
 item:=fun A k s Q E hk st hQ=>mP st.1 st.2 (Array.getElem?_eq_getElem hk) fun h' a b=>hQ _ h' (Array.getElem?_eq_getElem hk) ⟨a,by obtain ⟨o,e,r⟩:=st.2; exact ⟨o,b.extBut l o hne e,r⟩⟩ b
 done:=fun A s Q E hh st hE=>nO hh st.1 st.2 (Array.getElem?_eq_none (Qk _)) hE
section
variable {prog:Program} {w:World} {A:Around} {E:Value->Shared->Prop} {s:Shared} {z TI TO i1 i2 l1 l2:Addr} {n1 n2:Nat} {P1 P2:Nat->Value->Prop} {st1 st2:Nat->Heap->Prop}
end
inductive Sk where
 | l | t
def SqK (k:Sk) (K:PySem.W.Frag) (H:Hp) (a:Addr) (xs:List V):Prop:=match k with | .l=>SqL K H a xs | .t=>SqT K H a xs
def AtK (k:Sk) (h:Heap) (a:Addr) (its:Array Value):Prop:=match k with | .l=>h.IsList a its | .t=>h.IsTuple a its
def ItK (k:Sk) (h:Heap) (i a:Addr) (n:Nat):Prop:=match k with | .l=>h.IsListIter i a n | .t=>h.IsTupleIter i a n
def itK (k:Sk) (a:Addr):Obj:=match k with | .l=>{ cls:=.type "list_iterator",data:=.fields #[.ref a,.int 0 0] } | .t=>{ cls:=.type "tuple_iterator",data:=.fields #[.ref a,.int 0 0] }
theorem ItK.new (k:Sk) (h:Heap) (a:Addr):ItK k (h.push (itK k a)) h.objs.size a 0:=by
 cases k
 ·exact ⟨_,Qq _ rfl,rfl,rfl⟩
 ·exact ⟨_,Qq _ rfl,rfl,rfl⟩
theorem ItK.obj {k:Sk} {h:Heap} {i a:Addr} {n:Nat} (x:ItK k h i a n):∃ o,h.get? i=some o/\∀ v,o.data≠.cell v:=by
 cases k
 ·obtain ⟨o,e,_,d⟩:=x; exact ⟨o,e,fun v z=>by rw [d] at z; cases z⟩
 ·obtain ⟨o,e,_,d⟩:=x; exact ⟨o,e,fun v z=>by rw [d] at z; cases z⟩
theorem ItK.at {k:Sk} {h h':Heap} {i a:Addr} {n:Nat} (x:ItK k h i a n) (kp:∀ o,h.get? i=some o->h'.get? i=some o):ItK k h' i a n:=by
 cases k
 ·exact Heap.IsListIter.at x kp
 ·exact Heap.IsTupleIter.at x kp
theorem AtK.at {k:Sk} {h h':Heap} {a:Addr} {its:Array Value} (x:AtK k h a its) (kp:∀ o,h.get? a=some o->h'.get? a=some o):AtK k h' a its:=by
 cases k
 ·exact Heap.IsList.at x kp
 ·obtain ⟨o,e,r⟩:=x; exact ⟨o,kp o e,r⟩
theorem aAK (k:Sk) (prog:Program) (w:World) (i l:Addr) (items:Array Value) (hne:l≠i):Sub prog w i l items.size (fun j v=>items[j]?=some v) (fun j h=>ItK k h i l j/\AtK k h l items):=by
 cases k
 ·exact aBJ prog w i l items hne
 ·exact aAJ prog w i l items hne
theorem vV {prog:Program} {w:World} {A:Around} {E:Value->Shared->Prop} {s:Shared} {k:Sk} {a:Addr} {its:Array Value} {Q:Value->Shared->Prop} (h:AtK k s.heap a its) (hQ:Q (.ref s.heap.objs.size) { s with heap:=s.heap.push (itK k a) }):wpAny (model prog w) A (pyIter (.ref a)) Q E s:=by
 cases k
 ·exact wpAny_pyIter_list h hQ
 ·exact wpAny_pyIter_tuple h hQ
section
variable {X:Cx} {pins:List (Addr×Obj)} {σ:St} {H:Hp} {s:Shared}
theorem Inv.seqK (I:Inv X pins σ H s) {k:Sk} {a:Addr} {xs:List V} (h:SqK k X.K H a xs):∃ its:List Value,bA xs its/\AtK k s.heap a its.toArray:=by
 cases k
 ·obtain ⟨its,r,p,_⟩:=I.list h; exact ⟨its,r,p.isList⟩
 ·obtain ⟨its,r,p,_⟩:=I.tuple h; exact ⟨its,r,p⟩
theorem Inv.seqK_inj (I:Inv X pins σ H s) {k:Sk} {a:Addr} {xs ys:List V} (h:SqK k X.K H a xs) (h':SqK k X.K H a ys):xs=ys:=by
 cases k
 ·exact I.list_inj h h'
 ·exact I.tuple_inj h h'
theorem Inv.seq_ne (I:Inv X pins σ H s) {k:Sk} {a b:Addr} {xs:List V} (h:SqK k X.K H a xs) (f:gU X pins H b):a≠b:=by
 have rd:∀ {u:HO},Rd H a u->a≠b:=fun {u} r z=>by
  rcases r with r | ⟨o,r⟩ <;> (rw [z,f.1] at r; cases r)
 have kk:∀ {o:Obj},X.K.lookup a=some o->a≠b:=fun {o} e z=>by
  have e1:=I.ok.mod.kin a o e
  rcases f.2.2.2.1 with q | q
  ·exact I.ok.noex a o e1 (z ▸ q)
  ·exact Qu _ (Qi (Qm (I.ok.bs a o e1).1) (z ▸ q))
 cases k
 ·rcases h with h | ⟨o,_,_,e,_⟩
  ·exact rd h
  ·exact kk e
 ·rcases h with h | ⟨o,_,_,e,_⟩
  ·exact rd h
  ·exact kk e
theorem Inv.turnedL {h':Heap} {t':Nat} (ch:List Addr) (I:Inv X pins σ H s) (k:∀ b o,b∉ch->s.heap.get? b=some o->h'.get? b=some o) (f:∀ b∈ch,gU X pins H b):Inv X pins σ H { s with heap:=h',toks:=t' }:=by
 have nit:∀ b u,H b=some u->b∉ch:=fun b u e z=>by rw [(f b z).1] at e; cases e
 have nL:X.env.locals∉ch:=fun z=>(f _ z).2.1 rfl
 refine I.step (g':=s.gens) (d':=s.drawn) (ch:=ch) (fun b hb=>⟨(f b hb).2.2.2.1,(f b hb).2.1,(f b hb).2.2.2.2.1,(f b hb).2.2.2.2.2⟩) (fun b o _ _ hc e _=>k b o hc e) (fun b o _ _ hc e _=>⟨o.slots,k b o hc e⟩) (fun _ _ _ _ n=>n)
  (fun b o hc e=>⟨o,k b o hc e⟩) (fun _ _ e=>e) (fun _ _ _ e=>e) (fun b ps e=>⟨#[],by rw [e]; simp⟩) (fun m hm=>?_) (fun b u e=>?_) I.bare
 ·obtain ⟨o,es,ep,ho,r⟩:=hm
  exact ⟨o,es,ep,k _ o nL ho,r⟩
 ·refine (I.hok b u e).stay (fun c v hc q=>k c v ?_ q) (fun _ q=>q) fun _ _ q=>q
  rcases hc with z | z
  ·rw [z]; exact nit b u e
  ·exact nit c _ z
theorem Inv.trackO {D:Addr} {u:HO} (I:Inv X pins σ H s) (new:bW X.prog X.w (upd H D u) s.heap D u) (hn:H D=none) (hL:D≠X.env.locals)
  (h1:X.s₀.heap.objs.size<=D) (h2:∀ x c,X.env.cells.lookup x=some c->c≠D) (h3:∀ p∈X.pn++pins,p.1≠D):Inv X pins σ (upd H D u) s:=by
 have ne:∀ b v,H b=some v->b≠D:=fun b v e z=>by rw [z,hn] at e; cases e
 refine I.step (g':=s.gens) (d':=s.drawn) (t':=s.toks) (h':=s.heap) (ch:=[D]) (fun b hb=>?_) (fun b o _ _ _ e _=>e) (fun b o _ _ _ e _=>⟨o.slots,e⟩) (fun b o hc _ n=>?_) (fun b o _ e=>⟨o,e⟩)
  (fun b xs e=>by rw [aG (ne b _ e)]; exact e) (fun b o v e=>by rw [aG (ne b _ e)]; exact e) (fun b ps e=>⟨#[],by rw [aG (ne b _ e),e]; simp⟩) (fun _ h=>h) (fun b v e=>?_) I.bare
 ·have e:b=D:=by simpa using hb
  subst e
  exact ⟨.inr h1,hL,h2,h3⟩
 ·rw [aG (by simpa using hc)]; exact n
 ·by_cases hb:b=D
  ·subst hb
   rw [aB] at e; cases e
   exact new
  ·rw [aG hb] at e
   exact (I.hok b v e).stay (fun c v _ q=>q) (fun c q=>by rw [aG (ne c _ q)]; exact q) fun c xs q=>by rw [aG (ne c _ q)]; exact q
end
abbrev zh1 (k1:Sk) (h:Heap) (a:Addr):Heap:=h.push (itK k1 a)
abbrev zh2 (k1 k2:Sk) (h:Heap) (a b:Addr):Heap:=(zh1 k1 h a).push (itK k2 b)
abbrev zh3 (k1 k2:Sk) (h:Heap) (a b:Addr):Heap:=(zh2 k1 k2 h a b).push { cls:=.type "tuple",data:=.seq #[.ref h.objs.size,.ref (zh1 k1 h a).objs.size] }
abbrev zh4 (k1 k2:Sk) (h:Heap) (a b:Addr):Heap:=(zh3 k1 k2 h a b).push { cls:=.type "tuple",data:=.seq #[.none,.none] }
abbrev zh5 (k1 k2:Sk) (h:Heap) (a b:Addr):Heap:=(zh4 k1 k2 h a b).push { cls:=.type "zip",data:=.fields #[.none,.bool false,.bool false,.ref (zh2 k1 k2 h a b).objs.size,.ref (zh3 k1 k2 h a b).objs.size] }
theorem aBK (k1 k2:Sk) (a b:Addr) (xs ys:Array Value) :
  Meets (Builtin.«zip.__new__» ⟨[.type "zip",.ref a,.ref b],[]⟩) (fun _ R s=>AtK k1 s.heap a xs/\AtK k2 s.heap b ys/\R (.ok (.ret (.ref (zh4 k1 k2 s.heap a b).objs.size))) { s with heap:=zh5 k1 k2 s.heap a b }) :=
 .of_wp fun prog w A R s h=>by
  obtain ⟨hp,g,d,tk,os⟩:=s
  obtain ⟨hl1,hl2,h⟩:=h
  have hsub:=sub_zip
  have hA:AtK k1 (Shared.heap ⟨hp,g,d,tk,os⟩) a xs:=hl1
  have hB:AtK k2 (Shared.heap ⟨hp.push (itK k1 a),g,d,tk,os⟩) b ys:=AtK.at hl2 fun o e=>Qc _ e
  wp_walk using vV hA,vV hB
  exact ⟨_,rfl,h⟩
section
variable {X:Cx} {es:List Expr} {x1:Nat} {tpos:Pos}
end
open PySem.AutoSeq1 (wpAny_loadPart')
theorem sJ (l b:Addr) (items items2:Array Value) (n n2:Nat) (dd dd2:Option Addr) (sl sl2:Array (Option Value)) (hc0:items.isEmpty=true) :
  Meets (Builtin.«tuple.__add__» ⟨[.ref l,.ref b],[]⟩) (fun _ R s=>s.heap.get? l=some { cls:=.type "tuple",dict:=dd,data:=.seq items n,slots:=sl }/\s.heap.get? b=some { cls:=.type "tuple",dict:=dd2,data:=.seq items2 n2,slots:=sl2 }/\R (.ok (.ret (Value.ref b))) s) :=
 .of_wp fun prog w A R s h=>by
  obtain ⟨hp,g,d,tk,os⟩:=s
  obtain ⟨hl,hb,h⟩:=h
  have f1:=AutoSeq1.idx_int
  have f2:=AutoSeq1.sub_tuple_tuple
  wp_walk using wpAny_loadPart' hl,wpAny_loadPart' hb
  exact ⟨_,rfl,h⟩
section
variable {X:Cx}
theorem zT:OpR X (binaryOp .Add) (fun x y H Q=>∃ a b xs ys,x=.ref a/\y=.ref b/\SqT X.K H a xs/\SqT X.K H b ys/\xs.length+ys.length<=sizeLine/\∀ p H',aE H H'->SqT X.K H' p (xs++ys)->Q (.ref p) H'):=by
 intro pins s σ H x y v u Q I rx ry h
 obtain ⟨a,b,xs,ys,rfl,rfl,ha,hb,hz,q⟩:=h
 by_cases hx:xs = []
 ·subst hx
  cases rx
  cases ry
  obtain ⟨its,r1,⟨⟨cls,dd,data,sl⟩,ho,hc,n,hd⟩,_⟩:=I.tuple ha
  obtain ⟨its2,r2,⟨⟨cls2,dd2,data2,sl2⟩,ho2,hc2,n2,hd2⟩,_⟩:=I.tuple hb
  simp only at hc hd hc2 hd2
  subst hc hd hc2 hd2
  cases r1
  exact concat_meets ⟨_,ho,rfl⟩ ⟨_,ho2,rfl⟩ noFill_tuple_add seq_tuple_add PySem.F.slot_tuple_add PySem.F.entry_tuple_add (PySem.F.args_tuple_add_2 _ _)
   (sJ a b _ _ n n2 dd dd2 sl sl2 rfl) ⟨ho,ho2,⟨.ref b,H,I,rfl,q b H (aE.refl H) hb⟩⟩
 ·refine aDf pins s σ H _ _ v u Q I rx ry ⟨a,b,xs,ys,rfl,rfl,ha,hb,hx,hz,fun e=>?_,fun e p hp=>?_⟩
  ·subst e
   exact q a H (aE.refl H) (by rw [Xh]; exact ha)
  ·exact q p _ (aE.new hp) (SqT.of aB)
theorem aAL (xs:List V) (k:Nat):yA xs (some (k:Int)) none=xs.drop k:=by
 unfold yA
 rw [HT.sIx_none,HT.sIx_nat]
 by_cases h:k<=xs.length
 ·rw [Nat.min_eq_left h,Xg (by rw [Ym]; exact Qk _)]
 ·rw [Nat.min_eq_right (by omega),Ws (Qk _),Ws (by omega),List.take_nil]
end
def oX (N frn:List Str) (fr:List Nat):Bool:=frn.length==fr.length && (frn.zip fr).all fun y=>N[y.2]?==some y.1
theorem aX {X:Cx} {scope:Scope} {own frn:List Str} {fr:List Nat} (sc:Scope) (N:List Str) (h1:X.env.scope=sc) (h2:X.N=N) (h:(nN sc scope own frn && oX N frn fr)=true):CompOk X scope own fr frn:=by
 rw [Jr] at h
 obtain ⟨ha,hb⟩:=h
 unfold oX at hb
 simp only [Jr,beq_iff_eq,Jb] at hb
 refine ⟨by rw [h1]; exact ha,fun k x hk=>?_,hb.1.symm⟩
 have hlt:k < fr.length:=by rw [<- hb.1]; exact (Qd.mp hk).1
 refine ⟨fr[k],Qb hlt,?_⟩
 have hm:(x,fr[k])∈frn.zip fr:=by
  refine Qh (i:=k) ?_
  rw [Zd]
  exact ⟨hk,Qb hlt⟩
 rw [h2]
 exact hb.2 _ hm
section
variable {J:It} {own:Nat} {fr:List Nat} {g:TG} {tt:TT} {te:TE} {σ:St} {H:Hp} {Q:Hp->List V->Prop}
theorem lM (n:Nat) (hn:n<=sizeLine) (SH:St->Prop) (Pv:Nat->List V->Hp->Prop) (hσ:SH (blk own fr σ)) (h0:Pv 0 [] H) (hlen:∀ i ys H,Pv i ys H->ys.length<=i)
  (hstop:∀ ys H,Pv n ys H->J.stop n H) (hgo:∀ i ys H,i < n->Pv i ys H->J.go i H)
  (hs:∀ i ys σ x H H',i < n->SH σ->Pv i ys H->J.yld i H x H'->ys.length < sizeLine->g x σ H' fun σ2 H2=>tt σ2 H2 fun b H3=>if b=true then te σ2 H3 fun y H4=>ys.length < sizeLine/\SH σ2/\Pv (i+1) (ys++[y]) H4 else SH σ2/\Pv (i+1) ys H3)
  (hd:∀ ys H,Pv n ys H->Q H ys) :
  ∃ W:Nat->Nat->List V->St->Hp->Prop,(∃ m,W 0 m [] (blk own fr σ) H)/\∀ i m ys σ' H,W i m ys σ' H ->
   (J.stop i H/\Q H ys) ∨
   (J.go i H/\∃ N:List V->St->Hp->Prop,(∀ ys' σ2 H2,N ys' σ2 H2->∃ m',m' < m/\W (i+1) m' ys' σ2 H2) /\
    ∀ x H',J.yld i H x H'->g x σ' H' fun σ2 H2=>tt σ2 H2 fun b H3=>if b=true then te σ2 H3 fun y H4=>ys.length < sizeLine/\N (ys++[y]) σ2 H4 else N ys σ2 H3):=by
 refine ⟨fun i m ys σ' H=>m=n - i/\i<=n/\SH σ'/\Pv i ys H,⟨n,by simp,Jj _,hσ,h0⟩,?_⟩
 rintro i m ys σ' H ⟨rfl,hi,sh,p⟩
 by_cases hlt:i < n
 ·refine .inr ⟨hgo i ys H hlt p,fun ys' σ2 H2=>SH σ2/\Pv (i+1) ys' H2,fun ys' σ2 H2 ⟨e,q⟩=>⟨n - (i+1),by omega,rfl,hlt,e,q⟩,fun x H' y=>?_⟩
  exact hs i ys σ' x H H' hlt sh p y (by have:=hlen i ys H p; omega)
 ·have e:i=n:=by omega
  subst e
  exact .inl ⟨hstop ys H p,hd ys H p⟩
theorem lB {K:PySem.W.Frag} {a:Addr} {xs:List V} (SH:St->Prop) (Pv:Nat->List V->Hp->Prop) (hn:xs.length<=sizeLine) (hσ:SH (blk own fr σ)) (h0:Pv 0 [] H) (hlen:∀ i ys H,Pv i ys H->ys.length<=i) (hl:∀ i ys H,Pv i ys H->SqT K H a xs)
  (hs:∀ i ys σ x H,xs[i]?=some x->SH σ->Pv i ys H->ys.length < sizeLine->g x σ H fun σ2 H2=>tt σ2 H2 fun b H3=>if b=true then te σ2 H3 fun y H4=>ys.length < sizeLine/\SH σ2/\Pv (i+1) (ys++[y]) H4 else SH σ2/\Pv (i+1) ys H3)
  (hd:∀ ys H,Pv xs.length ys H->Q H ys) :
  ∃ W:Nat->Nat->List V->St->Hp->Prop,(∃ m,W 0 m [] (blk own fr σ) H)/\∀ i m ys σ' H,W i m ys σ' H ->
   ((Itt K a).stop i H/\Q H ys) ∨
   ((Itt K a).go i H/\∃ N:List V->St->Hp->Prop,(∀ ys' σ2 H2,N ys' σ2 H2->∃ m',m' < m/\W (i+1) m' ys' σ2 H2) /\
    ∀ x H',(Itt K a).yld i H x H'->g x σ' H' fun σ2 H2=>tt σ2 H2 fun b H3=>if b=true then te σ2 H3 fun y H4=>ys.length < sizeLine/\N (ys++[y]) σ2 H4 else N ys σ2 H3):=by
 refine lM xs.length hn SH Pv hσ h0 hlen (fun ys H p=>⟨xs,hl _ _ _ p,Qk _⟩) (fun i ys H hi p=>⟨xs,xs[i],hl _ _ _ p,Qb hi⟩) (fun i ys σ x H H' hi sh p y hz=>?_) hd
 obtain ⟨e,y⟩:=y
 subst e
 exact hs i ys σ x _ (y xs (hl _ _ _ p)) sh p hz
theorem gY {K:PySem.W.Frag} {a:Addr} {xs:List V} (SH:St->Prop) (Pv:Nat->List V->Hp->Prop) (hn:xs.length<=sizeLine) (hσ:SH (blk own fr σ)) (h0:Pv 0 [] H) (hlen:∀ i ys H,Pv i ys H->ys.length<=i) (hl:∀ i ys H,Pv i ys H->SqL K H a xs)
  (hs:∀ i ys σ x H,xs[i]?=some x->SH σ->Pv i ys H->ys.length < sizeLine->g x σ H fun σ2 H2=>tt σ2 H2 fun b H3=>if b=true then te σ2 H3 fun y H4=>ys.length < sizeLine/\SH σ2/\Pv (i+1) (ys++[y]) H4 else SH σ2/\Pv (i+1) ys H3)
  (hd:∀ ys H,Pv xs.length ys H->Q H ys) :
  ∃ W:Nat->Nat->List V->St->Hp->Prop,(∃ m,W 0 m [] (blk own fr σ) H)/\∀ i m ys σ' H,W i m ys σ' H ->
   ((Itl K a).stop i H/\Q H ys) ∨
   ((Itl K a).go i H/\∃ N:List V->St->Hp->Prop,(∀ ys' σ2 H2,N ys' σ2 H2->∃ m',m' < m/\W (i+1) m' ys' σ2 H2) /\
    ∀ x H',(Itl K a).yld i H x H'->g x σ' H' fun σ2 H2=>tt σ2 H2 fun b H3=>if b=true then te σ2 H3 fun y H4=>ys.length < sizeLine/\N (ys++[y]) σ2 H4 else N ys σ2 H3):=by
 refine lM xs.length hn SH Pv hσ h0 hlen (fun ys H p=>⟨xs,hl _ _ _ p,Qk _⟩) (fun i ys H hi p=>⟨xs,xs[i],hl _ _ _ p,Qb hi⟩) (fun i ys σ x H H' hi sh p y hz=>?_) hd
 obtain ⟨e,y⟩:=y
 subst e
 exact hs i ys σ x _ (y xs (hl _ _ _ p)) sh p hz
theorem fM {lo:Int} {n:Nat} (SH:St->Prop) (Pv:Nat->List V->Hp->Prop) (hn:n<=sizeLine) (hσ:SH (blk own fr σ)) (h0:Pv 0 [] H) (hlen:∀ i ys H,Pv i ys H->ys.length<=i)
  (hs:∀ i ys σ H,i < n->SH σ->Pv i ys H->ys.length < sizeLine->g (.int (lo+i)) σ H fun σ2 H2=>tt σ2 H2 fun b H3=>if b=true then te σ2 H3 fun y H4=>ys.length < sizeLine/\SH σ2/\Pv (i+1) (ys++[y]) H4 else SH σ2/\Pv (i+1) ys H3)
  (hd:∀ ys H,Pv n ys H->Q H ys) :
  ∃ W:Nat->Nat->List V->St->Hp->Prop,(∃ m,W 0 m [] (blk own fr σ) H)/\∀ i m ys σ' H,W i m ys σ' H ->
   ((Itr lo n).stop i H/\Q H ys) ∨
   ((Itr lo n).go i H/\∃ N:List V->St->Hp->Prop,(∀ ys' σ2 H2,N ys' σ2 H2->∃ m',m' < m/\W (i+1) m' ys' σ2 H2) /\
    ∀ x H',(Itr lo n).yld i H x H'->g x σ' H' fun σ2 H2=>tt σ2 H2 fun b H3=>if b=true then te σ2 H3 fun y H4=>ys.length < sizeLine/\N (ys++[y]) σ2 H4 else N ys σ2 H3):=by
 refine lM n hn SH Pv hσ h0 hlen (fun ys H p=>Qk _) (fun i ys H hi p=>hi) (fun i ys σ x H H' hi sh p y hz=>?_) hd
 obtain ⟨e,y⟩:=y
 subst e y
 exact hs i ys σ _ hi sh p hz
end
section
variable {X:Cx}
def aFQ (i j:Int):Prop:=0 < j/\j < 1267650600228229401496703205376
theorem aBL:OpR X (binaryOp .FloorDiv) (rI aFQ fun i j=>.int (i / j)):=opI fun i j _ _ _ _ _ hc q=>by
 have h1:(0:Int) < j:=hc.1
 have h2:j < 1267650600228229401496703205376:=hc.2
 refine floordiv_int (by omega) (by rw [Zt i (by omega)]; exact q) (.inl (PyProof.noPylong_of_log2 ?_))
 have h3:j.natAbs.log2 < 100:=(Qan (by omega)).mpr (by omega)
 omega
theorem uC:∀ {xs:List V} {us:List Value},xs.length=us.length->(∀ (j:Nat) (x:V) (u:Value),xs[j]?=some x->us[j]?=some u->bD x u)->bA xs us
 | [],[],_,_=>.nil
 | [],_::_,h,_=>by cases h
 | _::_,[],h,_=>by cases h
 | x::xs,u::us,h,k=>.cons (k 0 x u rfl rfl) (uC (by simpa using h) fun j y v hy hv=>k (j+1) y v hy hv)
theorem sK (hc:X.calm=true):fY X (.type "list") (fun xs H Q=>∃ (a:Addr) (n:Nat),xs = [.ref a]/\H a=some (.rng 0 n)/\n<=1000/\∀ p,H p=none->Q (.ref p) (upd H p (.lst ((aO n).map V.int)))):=by
 intro pins s σ H xs us Q I r h
 obtain ⟨a,n,rfl,ha,hn,q⟩:=h
 obtain ⟨u,rfl,rx⟩:=jJ r
 cases rx
 obtain ⟨t,u,v,e⟩:=I.hok a _ ha
 have hsz:Builtin.Range.rangeSize 0 (n:Int) 1=(n:Int):=by rw [rangeSize_one]; split <;> omega
 have hsm:Builtin.Range.small 0 (n:Int) 1=true:=small_one (by omega) (by omega) (by omega) (by omega)
 refine call_list_range (I.ok.hd hc) e hsm hsz (Qv hn (by decide)) fun h' tk acc' c' kp hl hi=>?_
 have hv:bA ((aO n).map V.int) acc'.toList:=by
  obtain ⟨h1,h2⟩:=hi
  refine uC (by unfold aO; simp [h1]) fun j x u hx hu=>?_
  have hj:j < n:=by
   have:=(Qd.mp hu).1
   rw [Array.length_toList,h1] at this
   exact this
  obtain ⟨t,rfl⟩:=h2 j u (by rw [<- Array.getElem?_toList]; exact hu)
  unfold aO at hx
  rw [Qe,Qe,Xj hj] at hx
  have e:V.int (j:Int)=x:=Option.some.inj hx
  rw [<- e]
  exact ⟨t,by rw [Xo,Xz]⟩
 have hlen:((aO n).map V.int).length<=sizeLine:=by unfold aO; rw [Qa,Qa,Jp,sizeLine_eq]; omega
 exact ⟨.ref s.heap.objs.size,_,I.laid (t':=tk) kp (Qk _) (show bW X.prog X.w _ h' _ (.lst _) from ⟨hlen,acc'.toList,c',hv,hl⟩),rfl,q _ (I.hok.fresh (Qk _))⟩
theorem nQ {prog:Program} {w:World} {A:Around} {E:Value->Shared->Prop} {s:Shared} {sl:Addr} {tk:Tok} {n:Nat} {Q:Int×Int×Nat->Shared->Prop} (hs:s.heap.IsSliceOf sl .none .none (.int (-1) tk))
  (h:Q ((n:Int) - 1,-1,n) s):wpAny (model prog w) A (Builtin.Slice.sliceApplied (.ref sl) (pure (n:Int))) Q E s:=by
 obtain ⟨os,hos,hcs,hds⟩:=id hs
 unfold Builtin.Slice.sliceApplied Builtin.Slice.sliceFields
 refine wpAny_bind (wpAny_bind (wpAny_field hos hds (x:=.none) rfl (wpAny_bind (wpAny_field hos hds (x:=.none) rfl (wpAny_bind (wpAny_field hos hds (x:=.int (-1) tk) rfl (wpAny_pure ?_)))))))
 refine wpAny_bind (HT.slicePart_ (.int (-1) tk) ?_)
 show wpAny _ _ (if ((-1:Int)==0)=true then _ else _) _ _ s
 rw [if_neg (by decide)]
 refine wpAny_bind (HT.slicePart_ .none (wpAny_bind (HT.slicePart_ .none (wpAny_bind (wpAny_pure ?_)))))
 show wpAny _ _ (match Builtin.Slice.sliceAdjust none none (-1) (n:Int) with | (lo,hi)=>pure (lo,(-1:Int),Builtin.Slice.slicePlaces lo hi (-1))) _ _ s
 have e:Builtin.Slice.sliceAdjust none none (-1) (n:Int)=((n:Int) - 1,-1):=by simp [Builtin.Slice.sliceAdjust]
 rw [e]
 have e2:Builtin.Slice.slicePlaces ((n:Int) - 1) (-1) (-1)=n:=by
  unfold Builtin.Slice.slicePlaces
  rw [if_neg (by decide)]
  by_cases h0:n=0
  ·subst h0; decide
  ·rw [if_pos (by omega)]
   have:((n:Int) - 1 - -1 - 1) / (- -1)+1=n:=by rw [show (- -1:Int)=1 from rfl,Qaj]; omega
   rw [this]; simp
 show wpAny _ _ (pure ((n:Int) - 1,(-1:Int),Builtin.Slice.slicePlaces ((n:Int) - 1) (-1) (-1))) _ _ s
 rw [e2]
 exact wpAny_pure h
theorem vW {α β:Type} {f g:α->Option β}:∀ {l:List α},(∀ x∈l,f x=g x)->l.filterMap f=l.filterMap g
 | [],_=>rfl
 | x::r,h=>by rw [Zj,Zj,h x (Qg ..),vW fun y hy=>h y (Ql _ hy)]
theorem vX (xs:Array Value):((List.range xs.size).filterMap fun (k:Nat)=>xs[((xs.size:Int) - 1+(k:Int)*(-1)).toNat]?).toArray=xs.toList.reverse.toArray:=by
 have h:=HT.pick_gen xs.toList.reverse.toArray 0 xs.size
 have e:(List.range xs.size).filterMap (fun (k:Nat)=>xs[((xs.size:Int) - 1+(k:Int)*(-1)).toNat]?)=(List.range xs.size).filterMap (fun (m:Nat)=>xs.toList.reverse.toArray[(((0:Nat):Int)+(m:Int)*1).toNat]?):=by
  refine vW fun k hk=>?_
  have hk':=Jt.mp hk
  have h1:((xs.size:Int) - 1+(k:Int)*(-1)).toNat=xs.size - 1 - k:=by omega
  have h2:(((0:Nat):Int)+(k:Int)*1).toNat=k:=by omega
  rw [h1,h2]
  simp only [List.getElem?_toArray]
  rw [Yk (by simpa using hk')]
  simp
 rw [e,h]
 congr 1
 rw [List.drop_zero,Xg (by simp)]
theorem mQ {prog:Program} {w:World} {A:Around} {E:Value->Shared->Prop} {s:Shared} {t sl:Addr} {items:Array Value} {tk:Tok} {Q:Value->Shared->Prop} (ht:IsTup s.heap t items) (hs:s.heap.IsSliceOf sl .none .none (.int (-1) tk))
  (h:Q (.ref s.heap.objs.size) { s with heap:=s.heap.push { cls:=.type "tuple",data:=.seq items.toList.reverse.toArray } }) (hsz:items.size<=sizeLine):wpAny (model prog w) A (getItem (.ref t) (.ref sl)) Q E s:=by
 have htake:sizeOk (.seq items.toList.reverse.toArray):=by
  show items.toList.reverse.toArray.size<=sizeLine
  rw [Qs,Zk,Array.length_toList]
  exact hsz
 obtain ⟨os,hos,hcs,hds⟩:=id hs
 have hTs:s.TypeIs (.ref sl) "slice" := ⟨os,hos,hcs⟩
 unfold getItem
 try with_reducible refine wpAny_holding ?_
 first | refine wpAny_bind (wpAny_pure ?_) | skip
 refine wpAny_bind (wpAny_sequenceKey ht.typeIs (by decide) ?_)
 refine wpAny_bind (wpAny_callSpecial?_slot (name:=Str.ofString "__getitem__") ht.typeIs PyProof.Rows.slot_tuple_getitem
  (wpAny_call_entry PyProof.Rows.slot_tuple_getitem ht.typeIs entry_tuple_getitem ?_ (args_tuple_getitem _ _)))
 refine wpAny_bind (m:=Builtin.Tuple.tupleItemsOf (.ref t)) (tupleItemsOf_ ht ?_)
 refine wpAny_bind (wpAny_typeOf hTs ?_)
 rw [if_pos (by decide)]
 refine wpAny_bind (nQ hs ?_)
 have hno:¬ ((((items.size:Int) - 1)==0 && (-1:Int)==1 && items.size==items.size)=true):=by simp
 show wpAny _ _ (if (((items.size:Int) - 1)==0 && (-1:Int)==1 && items.size==items.size)=true then _ else _) _ _ s
 rw [if_neg hno,vX]
 first
  | exact wpAny_bind (m:=Builtin.Tuple.tupleExact _) (wpAny_newObj_type (wpAny_pure ⟨_,rfl,wpAny_pure h⟩) htake)
  | exact wpAny_bind (m:=Builtin.Tuple.tupleExact _) (wpAny_newObj_type (wpAny_bind (wpAny_pure (wpAny_pure ⟨_,rfl,wpAny_pure h⟩))) htake)
  | exact wpAny_bind (wpAny_bind (m:=Builtin.Tuple.tupleExact _) (wpAny_newObj_type (wpAny_pure (wpAny_pure ⟨_,rfl,wpAny_pure h⟩)) htake))
  | exact wpAny_bind (wpAny_bind (m:=Builtin.Tuple.tupleExact _) (wpAny_newObj_type (wpAny_pure ⟨_,rfl,wpAny_pure h⟩) htake))
def aGx (K:PySem.W.Frag) (te ts:TE):TE:=fun σ H Q=>te σ H fun x H1=>ts σ H1 fun y H2=>y=.int (-1)/\∃ a xs,x=.ref a/\SqT K H2 a xs/\∀ p,H2 p=none->Q (.ref p) (upd H2 p (.tup xs.reverse))
theorem aEY {e st:Expr} {te ts:TE} {pos p2:Pos} (he:PE X e te) (hst:PE X st ts):PE X (.Subscript e (.Slice none none (some st) p2) pos) (aGx X.K te ts):=by
 intro pins s σ H Q I h
 refine Subscript_ (thn (he pins s σ H _ I h) fun v s1 hx9=>?_)
 obtain ⟨x,H1,I1,r1,q1⟩:=hx9
 refine wpAny_Slice ?_
 rw [evalPart_none]
 refine wpAny_pure ?_
 show wpAny _ _ (evalPart none X.env) _ _ s1
 rw [evalPart_none]
 refine wpAny_pure ?_
 show wpAny _ _ (evalPart (some st) X.env) _ _ s1
 rw [evalPart_some]
 refine thn (hst pins s1 σ H1 _ I1 q1) fun vst s3 hx9=>?_
 obtain ⟨y,H3,I3,r3,q3⟩:=hx9
 obtain ⟨rfl,a,xs,rfl,hx,q⟩:=q3
 obtain ⟨tk,rfl⟩:=r3
 cases r1
 have I4:Inv X pins σ H3 { s3 with heap:=s3.heap.push { cls:=.type "slice",data:=.fields #[.none,.none,.int (-1) tk] } }:=I3.kept (t':=s3.toks) fun b ob q=>Qc _ q
 obtain ⟨its,r,ht,hz⟩:=I4.tuple hx
 have hlen:=r.length
 have hg:wpAny (model X.prog X.w) X.A (getItem (.ref a) (.ref s3.heap.objs.size)) (EP X pins σ Q) X.xe { s3 with heap:=s3.heap.push { cls:=.type "slice",data:=.fields #[.none,.none,.int (-1) tk] } }:=by
  refine mQ ht (Heap.IsSliceOf.new ..) ?_ (by rw [Qs]; omega)
  refine ⟨.ref _,_,I4.laid (t':=s3.toks) (o:=.tup xs.reverse) (fun b ob q=>Qc _ q) (Qk _) ?_,rfl,q _ (I4.hok.fresh (Qk _))⟩
  exact ⟨by rw [Zk]; exact hz,its.reverse,0,r.reverse,Qq _ rfl⟩
 show wpAny (model X.prog X.w) X.A (subscriptTail e (.Slice none none (some st) p2) (.ref a) (.ref s3.heap.objs.size)) (EP X pins σ Q) X.xe { s3 with heap:=s3.heap.push { cls:=.type "slice",data:=.fields #[.none,.none,.int (-1) tk] } }
 exact tail_any (ops:=[.ref a,.ref s3.heap.objs.size]) ht.typeIs PyProof.Rows.slot_tuple_getitem.lookup hg (by with_unfolding_all rfl)
end
def Vw (S:List Addr) (H:Hp):Hp:=fun b=>if b∈S then none else H b
theorem Vw.out {S:List Addr} {H:Hp} {b:Addr} (n:b∉S):Vw S H b=H b:=by unfold Vw; rw [if_neg n]
theorem Vw.sub {S:List Addr} {H:Hp}:aE (Vw S H) H:=fun b o h=>by
 by_cases z:b∈S
 ·unfold Vw at h; rw [if_pos z] at h; cases h
 ·rw [Vw.out z] at h; exact h
theorem Vw.keep {S:List Addr} {H H':Hp} (e:∀ b o,b∉S->H b=some o->H' b=some o):aE (Vw S H) (Vw S H'):=fun b o h=>by
 by_cases z:b∈S
 ·unfold Vw at h; rw [if_pos z] at h; cases h
 ·rw [Vw.out z] at h ⊢; exact e b o z h
theorem Vw.same {S:List Addr} {H H':Hp} (e:aE H H'):aE (Vw S H) (Vw S H'):=Vw.keep fun b o _ h=>e b o h
def Fx (S:List Addr) (H:Hp):Prop:=∀ b∈S,∃ xs,H b=some (.lst xs)
theorem Fx.same {S:List Addr} {H H':Hp} (f:Fx S H) (e:aE H H'):Fx S H':=fun b hb=>let ⟨xs,h⟩:=f b hb; ⟨xs,e b _ h⟩
theorem Fx.new {S:List Addr} {H:Hp} {p:Addr} (f:Fx S H) (h:H p=none):p∉S:=fun z=>by
 obtain ⟨xs,q⟩:=f p z
 rw [q] at h; cases h
theorem Fx.nil {H:Hp}:Fx [] H:=fun _ h=>(Ja h).elim
section
variable {K:PySem.W.Frag} {S:List Addr} {H H' H0:Hp}
theorem Fx.seqT {a:Addr} {xs:List V} (f:Fx S H) (h:SqT K H a xs):SqT K (Vw S H) a xs:=by
 rcases h with (h | ⟨o,h⟩) | h
 ·exact .inl (.inl (by rw [Vw.out fun z=>by obtain ⟨ys,q⟩:=f a z; rw [q] at h; cases h]; exact h))
 ·exact .inl (.inr ⟨o,by rw [Vw.out fun z=>by obtain ⟨ys,q⟩:=f a z; rw [q] at h; cases h]; exact h⟩)
 ·exact .inr h
theorem Vw.at {p:Addr} {o:HO} (f:Fx S H) (h:H p=none):Vw S (upd H p o) p=some o:=by rw [Vw.out (f.new h)]; exact aB
def Dn (K:PySem.W.Frag) (S:List Addr) (H:Hp) (x:V):Prop:=∃ d,Den K (Vw S H) d x
def DT (K:PySem.W.Frag) (S:List Addr) (n:Nat) (H:Hp) (x:V):Prop:=∃ a xs,x=.ref a/\SqT K (Vw S H) a xs/\xs.length<=n/\∀ y∈xs,Dn K S H y
def II (_:Hp) (x:V):Prop:=∃ i,x=.int i
class Mo (R:Hp->V->Prop):Prop where
 mo:∀ {H H':Hp} {v:V},aE H H'->R H v->R H' v
theorem Dn.keep {x:V} (h:Dn K S H x) (e:aE (Vw S H) (Vw S H')):Dn K S H' x:=let ⟨d,h⟩:=h; ⟨d,e.den _ _ h⟩
theorem Dn.same {x:V} (h:Dn K S H x) (e:aE H H'):Dn K S H' x:=h.keep (Vw.same e)
theorem DT.keep {n:Nat} {x:V} (h:DT K S n H x) (e:aE (Vw S H) (Vw S H')):DT K S n H' x:=let ⟨a,xs,h1,h2,h3,h4⟩:=h; ⟨a,xs,h1,e.seqT h2,h3,fun y hy=>(h4 y hy).keep e⟩
theorem DT.same {n:Nat} {x:V} (h:DT K S n H x) (e:aE H H'):DT K S n H' x:=h.keep (Vw.same e)
instance:Mo (Dn K S):=⟨fun e h=>Dn.same h e⟩
instance {n:Nat}:Mo (DT K S n):=⟨fun e h=>DT.same h e⟩
instance:Mo II:=⟨fun _ h=>h⟩
theorem aBM (i:Int):Dn K S H (.int i):=⟨.int i,dJ.mpr rfl⟩
theorem II.dn {x:V} (h:II H x):Dn K S H x:=let ⟨i,h⟩:=h; h ▸ aBM i
theorem aBN:∀ {xs:List V},(∀ x∈xs,Dn K S H x)->∃ ds,aR K (Vw S H) ds xs
 | [],_=>⟨[],aN.mpr rfl⟩
 | x::r,h=>by
  obtain ⟨d,hd⟩:=h x (Qg ..)
  obtain ⟨ds,hds⟩:=aBN (xs:=r) fun y hy=>h y (Ql _ hy)
  exact ⟨d::ds,aK.mpr ⟨x,r,rfl,hd,hds⟩⟩
theorem DT.dn {n:Nat} {x:V} (h:DT K S n H x):Dn K S H x:=by
 obtain ⟨a,xs,rfl,h2,_,h4⟩:=h
 obtain ⟨ds,hds⟩:=aBN h4
 exact ⟨.tuple ds,bJ.mpr ⟨a,xs,rfl,h2,hds⟩⟩
theorem aDj {l:List Int}:∀ x∈l.map V.int,Dn K S H x:=fun x hx=>by
 obtain ⟨i,_,rfl⟩:=Jd.mp hx
 exact aBM i
theorem DT.ints {a:Addr} {l:List Int} {n:Nat} (f:Fx S H) (h:SqT K H a (l.map V.int)) (hn:l.length<=n):DT K S n H (.ref a):=⟨a,_,rfl,f.seqT h,by rw [Qa]; exact hn,aDj⟩
def Al (H0:Hp) (S:List Addr) (te:TE) (σ:St) (R:Hp->V->Prop):Prop:=∀ H,aE H0 H->Fx S H->∀ Q:VK,(∀ v H',aE H H'->R H' v->Q v H')->te σ H Q
variable {σ:St} {R R':Hp->V->Prop} {te ta tb ts:TE} {t tr:TA} {tl th:TO}
theorem Al.mono (h:Al H0 S te σ R) (m:∀ H v,R H v->R' H v):Al H0 S te σ R':=fun H s f Q k=>h H s f Q fun v H' s' r=>k v H' s' (m H' v r)
theorem Al.i (h:Al H0 S te σ II):Al H0 S te σ (Dn K S):=h.mono fun _ _ r=>r.dn
theorem Al.d {n:Nat} (h:Al H0 S te σ (DT K S n)):Al H0 S te σ (Dn K S):=h.mono fun _ _ r=>r.dn
def aFR (K:PySem.W.Frag):R2:=fun x y H Q=>∃ a b xs ys,x=.ref a/\y=.ref b/\SqT K H a xs/\SqT K H b ys/\xs.length+ys.length<=sizeLine/\∀ p H',aE H H'->SqT K H' p (xs++ys)->Q (.ref p) H'
theorem aBO {X:Cx} (hK:X.K=K):OpR X (binaryOp .Add) (aFR K):=by subst hK; exact zT
instance {a:Addr} {xs:List V}:Mo (fun H v=>v=.ref a/\SqT K H a xs):=⟨fun e h=>⟨h.1,e.seqT h.2⟩⟩
instance {x:V}:Mo (fun _ v=>v=x):=⟨fun _ h=>h⟩
end
open PySem.AutoSeq1 (wpAny_loadPart')
theorem nf {b:Bool} (h:b=false):decide (b=true)=false:=by rw [h]; rfl
theorem nt {b:Bool} (h:b=true):decide (b=true)=true:=by rw [h]; rfl
theorem pY (l:Addr) (items:Array Value) (n:Nat) (dd:Option Addr) (sl:Array (Option Value)) (x:Int) (u:Tok) (h1:1 < x) (h2:x<=1000) (hne:items.isEmpty=false) (hz:items.size<=1000) :
  Meets (Builtin.«tuple.__mul__» ⟨[.ref l,.int x u],[]⟩) (fun _ R s=>s.heap.get? l=some { cls:=.type "tuple",dict:=dd,data:=.seq items n,slots:=sl }/\R (.ok (.ret (Value.ref s.heap.objs.size))) { s with heap:=s.heap.push { cls:=Value.type "tuple",data:=Data.seq (List.foldl (fun x1 x2=>x1++x2) #[] (List.replicate x.toNat items)) },toks:=s.toks }) :=
 .of_wp fun prog w A R s h=>by
  obtain ⟨hp,g,d,tk,os⟩:=s
  obtain ⟨hl,h⟩:=h
  have f1:=AutoSeq1.idx_int
  have f2:=AutoSeq1.sub_tuple_tuple
  wp_walk using wpAny_loadPart' hl
  refine wpAny_ite_false (nf (show (decide (x < -2^63) || decide (x≥2^63))=false from by rw [decide_eq_false (show ¬ x < -2^63 by omega),decide_eq_false (show ¬ x≥2^63 by omega)]; rfl)) ?_
  wp_walk using wpAny_loadPart' hl
  refine wpAny_ite_false (nf (show (items.isEmpty || x==1)=false from by rw [hne,beq_eq_false_iff_ne.mpr (show x≠1 by omega)]; rfl)) ?_
  wp_walk using wpAny_loadPart' hl
  refine wpAny_ite_false (nf (show (decide (x<=0) || items.isEmpty)=false from by rw [hne,decide_eq_false (show ¬ x<=0 by omega)]; rfl)) ?_
  wp_walk using wpAny_loadPart' hl
  have hm:(items.size:Int)*x<=1000*1000:=Yi (by omega) h2 (by omega) (by omega)
  refine wpAny_ite_false (decide_eq_false (show ¬ (items.size:Int)*x > (2^63 - 1) / 8 by omega)) ?_
  wp_walk using wpAny_loadPart' hl
  refine wpAny_ite_false (nf (show decide ((items.size:Int)*x > (sizeLine:Int))=false from decide_eq_false (by rw [sizeLine_eq]; omega))) ?_
  have hsz:¬ (List.foldl (fun x1 x2=>x1++x2) #[] (List.replicate x.toNat items)).size > sizeLine:=by
   have e:=lK items.toList x.toNat []
   rw [Zg] at e
   have e2:List.foldl (fun x1 x2=>x1++x2) #[] (List.replicate x.toNat items)=(List.replicate x.toNat items.toList).flatten.toArray:=e
   rw [e2,Qs,uB,Array.length_toList,sizeLine_eq]
   have:x.toNat*items.size<=1000*1000:=Qab (by omega) hz
   omega
  wp_walk using wpAny_loadPart' hl
  exact ⟨_,rfl,h⟩
theorem pZ (l:Addr) (items:Array Value) (n:Nat) (dd:Option Addr) (sl:Array (Option Value)) (x:Int) (u:Tok) (h1:1 < x) (h2:x<=1000) (hne:items.isEmpty=true) :
  Meets (Builtin.«tuple.__mul__» ⟨[.ref l,.int x u],[]⟩) (fun _ R s=>s.heap.get? l=some { cls:=.type "tuple",dict:=dd,data:=.seq items n,slots:=sl }/\R (.ok (.ret (Value.ref l))) s) :=
 .of_wp fun prog w A R s h=>by
  obtain ⟨hp,g,d,tk,os⟩:=s
  obtain ⟨hl,h⟩:=h
  have f1:=AutoSeq1.idx_int
  have f2:=AutoSeq1.sub_tuple_tuple
  wp_walk using wpAny_loadPart' hl
  refine wpAny_ite_false (nf (show (decide (x < -2^63) || decide (x≥2^63))=false from by rw [decide_eq_false (show ¬ x < -2^63 by omega),decide_eq_false (show ¬ x≥2^63 by omega)]; rfl)) ?_
  wp_walk using wpAny_loadPart' hl
  exact ⟨_,rfl,h⟩
theorem jZ:fillsNumberSlot (.type "tuple") "mul" = pure false :=
 PySem.fillsNumberSlot_seq (id := "tuple.__mul__") (r:=some (.builtin "tuple.__rmul__")) PySem.F.slot_tuple_mul.lookup (by decide +kernel) PySem.F.slot_tuple_rmul.lookup (by decide +kernel)
theorem mR:seqRepeat? (.type "tuple")=pure (some (.builtin "tuple.__mul__")):=by
 unfold seqRepeat?
 rw [PySem.seqSlot_of (T := "tuple") (name := "__mul__") (id := "tuple.__mul__") PySem.F.slot_tuple_mul.lookup (by decide +kernel),PySem.seqSlot_of (T := "tuple") (name := "__rmul__") (id := "tuple.__rmul__") PySem.F.slot_tuple_rmul.lookup (by decide +kernel)]
 rfl
theorem lC (a:Int) (t:Tok) (l:Addr) (items:Array Value) (n:Nat) (dd:Option Addr) (sl:Array (Option Value)) :
  Meets (Builtin.«int.__rmul__» ⟨[.int a t,.ref l],[]⟩) (fun _ R s=>s.heap.get? l=some { cls:=.type "tuple",dict:=dd,data:=.seq items n,slots:=sl }/\R (.ok (.ret Value.notImplemented)) s) :=
 .of_wp fun prog w A R s h=>by
  obtain ⟨hp,g,d,tk,os⟩:=s
  obtain ⟨hl,h⟩:=h
  wp_walk using wpAny_loadPart' hl
  exact ⟨_,rfl,h⟩
def aFS (K:PySem.W.Frag):R2:=fun x y H Q=>∃ a k xs,x=.ref a/\y=.int k/\SqT K H a xs/\1 < k/\k<=1000/\xs.length<=1000/\∀ p H',aE H H'->SqT K H' p (List.replicate k.toNat xs).flatten->Q (.ref p) H'
theorem aDk {X:Cx} {K:PySem.W.Frag} (hK:X.K=K):OpR X (binaryOp .Mult) (aFS K):=by
 subst hK
 intro pins s σ H x y v u Q I rx ry h
 obtain ⟨a,k,xs,rfl,rfl,ha,h1,h2,hz,q⟩:=h
 cases rx
 obtain ⟨t,rfl⟩:=ry
 obtain ⟨its,r,⟨⟨cls,dd,data,sl⟩,ho,hc,n,hd⟩,hzz⟩:=I.tuple ha
 simp only at hc hd
 subst hc hd
 have hl:=r.length
 refine wpAny_binaryOp_repeat_ref (T := "tuple") (U := "int") (by decide) ⟨_,ho,rfl⟩ (fun s'=>typeIs_int s' k t) jZ PySem.F.fills_int_mul PySem.F.slot_int_rmul mR PySem.F.slot_int_index.lookup
  (call_meets PySem.F.slot_int_rmul (typeIs_int s k t) PySem.F.entry_int_rmul (PySem.F.args_int_rmul_2 _ _) (lC k t a its.toArray n dd sl) ⟨ho,rfl,⟨_,ho,rfl⟩,?_⟩)
 by_cases hx:xs = []
 ·subst hx
  cases r
  refine call_meets PySem.F.slot_tuple_mul ⟨_,ho,rfl⟩ PySem.F.entry_tuple_mul (PySem.F.args_tuple_mul_2 _ _) (pZ a _ n dd sl k t h1 h2 rfl) ⟨ho,?_⟩
  exact ⟨.ref a,H,I,rfl,q a H (aE.refl H) (by rw [List.flatten_replicate_nil]; exact ha)⟩
 ·have hne:its.toArray.isEmpty=false:=by
   cases its with
   | nil=>cases r; exact absurd rfl hx
   | cons _ _=>rfl
  refine call_meets PySem.F.slot_tuple_mul ⟨_,ho,rfl⟩ PySem.F.entry_tuple_mul (PySem.F.args_tuple_mul_2 _ _) (pY a its.toArray n dd sl k t h1 h2 hne (by rw [Qs]; omega)) ⟨ho,?_⟩
  have hnew:List.foldl (fun x1 x2=>x1++x2) #[] (List.replicate k.toNat its.toArray)=(List.replicate k.toNat its).flatten.toArray:=by
   have:=lK its k.toNat []
   rw [Zg] at this
   exact this
  rw [hnew]
  have hlen:(List.replicate k.toNat xs).flatten.length<=sizeLine:=by
   rw [uB,sizeLine_eq]
   have:k.toNat*xs.length<=1000*1000:=Qab (by omega) hz
   omega
  refine ⟨.ref _,_,I.laid (t':=s.toks) (o:=.tup (List.replicate k.toNat xs).flatten) (fun b ob q=>Qc _ q) (Qk _) ?_,rfl,q _ _ (aE.new (I.hok.fresh (Qk _))) (SqT.of aB)⟩
  exact ⟨hlen,(List.replicate k.toNat its).flatten,0,r.rep k.toNat,Qq _ rfl⟩
section
variable {X:Cx} {pins:List (Addr×Obj)} {σ:St} {H:Hp} {s:Shared}
end
section
variable {K:PySem.W.Frag} {S:List Addr} {H H' H0:Hp} {E E':Hp->V->Prop}
def DTe (K:PySem.W.Frag) (S:List Addr) (E:Hp->V->Prop) (n:Nat) (H:Hp) (x:V):Prop:=∃ a xs,x=.ref a/\SqT K (Vw S H) a xs/\xs.length<=n/\∀ y∈xs,E H y
def LTe (S:List Addr) (E:Hp->V->Prop) (n:Nat) (H:Hp) (x:V):Prop:=∃ a xs,x=.ref a/\Vw S H a=some (.lst xs)/\xs.length<=n/\∀ y∈xs,E H y
instance {n:Nat} [m:Mo E]:Mo (DTe K S E n):=⟨fun e ⟨a,xs,h1,h2,h3,h4⟩=>⟨a,xs,h1,(Vw.same e).seqT h2,h3,fun y hy=>m.mo e (h4 y hy)⟩⟩
instance {n:Nat} [m:Mo E]:Mo (LTe S E n):=⟨fun e ⟨a,xs,h1,h2,h3,h4⟩=>⟨a,xs,h1,Vw.same e _ _ h2,h3,fun y hy=>m.mo e (h4 y hy)⟩⟩
variable {σ:St} {te ta tb ts:TE} {t tr:TA} {tl th:TO}
end
section
variable {env:Env} {iP es:List Expr} {k:Nat} {pos:Pos} {a b c:Expr}
end
def aBP (X:Cx) (scope:Scope) (z0:Str) (C:Addr):Env:={ compEnvC scope (bZ X.env scope.names []) C X.env with cells:=(z0,C+1)::bZ X.env scope.names [] }
def bQ (X:Cx) (scope:Scope) (z0:Str) (N:List Str) (C:Addr) (s0:Shared) (H0:Hp) (fp:List Addr):Cx where
 prog:=X.prog
 w:=X.w
 K:=X.K
 mg:=X.mg
 base:=X.base
 A:=X.A
 N:=N
 s₀:=s0
 H₀:=H0
 env:=aBP X scope z0 C
 outer:=X.stack
 stack:=X.stack
 ex:=fp
 fn:=fun y=>y==z0
 calm:=X.calm
 pn:=[]
 xe:=fun _ _=>False
def mE (sc scope:Scope) (z0:Str) (own:List Str) (frn:List Str):Bool :=
 scope.kind==.function && scope.names.all (fun y=>y.2 !=.cell || y.1==z0) && scope.names.all (fun y=>y.2 !=.local || scope.names.lookup y.1==some .local) &&
 scope.names.all (fun y=>y.2 !=.free || sc.names.lookup y.1==some .cell || sc.names.lookup y.1==some .free) && decide (own++frn).Nodup &&
 frn.all (fun x=>scope.names.lookup x==some .free) && scope.names.lookup z0==some .cell && scope.names.all (fun y=>y.2 !=.free || y.1 !=z0)
structure CompOk1 (X:Cx) (scope:Scope) (z0:Str) (own:List Str) (fr:List Nat) (frn:List Str):Prop where
 ck:mE X.env.scope scope z0 own frn=true
 ix:∀ (k:Nat) (x:Str),frn[k]?=some x->∃ j:Nat,fr[k]?=some j/\X.N[j]?=some x
 len:fr.length=frn.length
 cf:∀ (n:Nat) (cl:List (Str×Addr)),cellsFrom n scope.names cl=(z0,n)::cl
 pc:∀ h:Heap,pushCells h scope.names=h.push { cls:=.type "cell",data:=.cell none }
theorem aDl {M:Model} {A:Around} {E:Value->Shared->Prop} {s:Shared} {scope:Scope} {globals:Addr} {cl:List (Str×Addr)} {qual z0:Str} {env:Env} {Q:Env->Shared->Prop}
  (cf:∀ (n:Nat) (cl:List (Str×Addr)),cellsFrom n scope.names cl=(z0,n)::cl) (pc:∀ h:Heap,pushCells h scope.names=h.push { cls:=.type "cell",data:=.cell none })
  (h:Q (newEnv scope s.heap.objs.size globals ((z0,s.heap.objs.size+1)::cl) qual none .none (some env) builtinsNs) { s with heap:=(s.heap.push { cls:=.type "dict",data:=.dict #[] }).push { cls:=.type "cell",data:=.cell none } }) :
  wpAny M A (newFunctionEnv scope globals cl [] qual none .none (some env)) Q E s:=by
 simp only [newFunctionEnv,Qaf,if_true]
 refine wpAny_bind (wpAny_alloc ?_)
 refine wpAny_bind (wpAny_layCells _ (fun name kind cells=>by cases hkc:kind==NameKind.cell <;> simp [hkc]) _ _ _ _ ?_)
 rw [cf,pc,show ({ s with heap:=s.heap.push { cls:=.type "dict",data:=.dict #[] } }:Shared).heap.objs.size=s.heap.objs.size+1 from Xf ..]
 rw [Yj]
 exact wpAny_bind (wpAny_pure (wpAny_pure h))
section
variable {X:Cx} {scope:Scope} {z0:Str} {own frn:List Str} {fr:List Nat}
theorem CompOk1.parts (S:CompOk1 X scope z0 own fr frn):scope.kind=.function/\(∀ y∈scope.names,y.2=.cell->y.1=z0)/\(∀ y∈scope.names,y.2=.local->scope.names.lookup y.1=some .local) /\
  (∀ y∈scope.names,y.2=.free->X.env.scope.names.lookup y.1=some .cell∨X.env.scope.names.lookup y.1=some .free)/\(own++frn).Nodup/\(∀ x∈frn,scope.names.lookup x=some .free)/\scope.names.lookup z0=some .cell/\∀ y∈scope.names,y.2=.free->y.1≠z0:=by
 have h:=S.ck
 unfold mE at h
 simp only [Jr,Jb,decide_eq_true_eq,Bool.or_eq_true,bne_iff_ne,ne_eq,beq_iff_eq] at h
 obtain ⟨⟨⟨⟨⟨⟨⟨h1,h2⟩,h3⟩,h4⟩,h5⟩,h7⟩,h8⟩,h9⟩:=h
 refine ⟨h1,fun y hy e=>?_,fun y hy e=>?_,fun y hy e=>?_,h5,h7,h8,fun y hy e=>?_⟩
 ·rcases h2 y hy with z | z
  ·exact absurd e z
  ·exact z
 ·rcases h3 y hy with z | z
  ·exact absurd e z
  ·exact z
 ·rcases h4 y hy with (z | z) | z
  ·exact absurd e z
  ·exact .inl z
  ·exact .inr z
 ·rcases h9 y hy with z | z
  ·exact absurd e z
  ·exact z
theorem vY (S:CompOk1 X scope z0 own fr frn) (σ:St):(blk own.length fr σ).length=(own++frn).length:=by
 unfold blk
 rw [Qr,Qr,Xi,Qa,S.len]
theorem qA {x:Str} {c C:Addr} {cl:List (Str×Addr)} (h:((z0,C+1)::cl).lookup x=some c):(x=z0/\c=C+1)∨(x≠z0/\cl.lookup x=some c):=by
 rw [Xc] at h
 cases e:x==z0 with
 | true=>rw [e] at h; exact .inl ⟨by simpa using e,(Option.some.inj h).symm⟩
 | false=>rw [e] at h; exact .inr ⟨by simpa using e,h⟩
theorem vZ {x:Str} {C:Addr} {cl:List (Str×Addr)} (h:x≠z0):((z0,C+1)::cl).lookup x=cl.lookup x:=by
 rw [Xc,show (x==z0)=false by simpa using h]
theorem aBQ {C:Addr} {cl:List (Str×Addr)}:((z0,C+1)::cl).lookup z0=some (C+1):=by
 rw [Xc,show (z0==z0)=true by simp]
theorem aAM {pins:List (Addr×Obj)} {σ:St} {H:Hp} {s:Shared} {fp:List Addr} {h1:Heap} {tk:Nat} {C D:Addr} {oD:Obj} {m:Str->Option Value} (I:Inv X pins σ H s) (S:CompOk1 X scope z0 own fr frn)
  (hfp:∀ b∈fp,gU X pins H b) (hlt:∀ b∈fp,b < s.heap.objs.size) (hC:s.heap.objs.size<=C) (hn:h1.Ns C m) (hk:∀ b o,s.heap.get? b=some o->h1.get? b=some o)
  (hD:s.heap.objs.size<=D) (hDC:D≠C) (hoD:h1.get? D=some oD) (hdD:∀ v,oD.data≠.cell v) (hcl:h1.IsCell (C+1) none) :
  Inv (bQ X scope z0 (own++frn) C s H fp) [(D,oD)] (blk own.length fr σ) H { s with heap:=h1,toks:=tk }:=by
 obtain ⟨p1,p2,p3,p4,p5,p7,p8,p9⟩:=S.parts
 have below:∀ b,b < s.heap.objs.size->b≠C:=fun b hb z=>Qu _ (Qi (z ▸ hb) hC)
 have clsub:∀ x c,(bZ X.env scope.names []).lookup x=some c->X.env.cells.lookup x=some c:=fun x c e=>by
  rcases gO _ _ _ _ (cQ e) with q | q
  ·cases q
  ·exact q
 have clt:∀ x c,X.env.cells.lookup x=some c->c < s.heap.objs.size:=fun x c e=>by
  obtain ⟨v,q⟩:=I.cell x c e
  exact q.lt
 have nstk:∀ b∈fp,b∉frs X.stack:=fun b hb z=>by
  obtain ⟨_,f1,f2,_⟩:=hfp b hb
  rcases Qp.mp (I.stkSub b z) with e | e
  ·exact f1 e
  ·exact f2 e
 have Dfs:D∉frs X.stack:=fun z=>by
  have q:=I.stkSub D z
  rcases Qp.mp q with e | e
  ·exact Qu _ (Qi (e ▸ I.lt:D < _) hD)
  ·exact I.nofs hD e
 refine ⟨⟨I.ok.mod,p1,I.ok.glob,I.ok.blt,hC,fun x y c e1 e2=>?inj,fun x hx=>?has,fun x c e e2=>?cab,I.ok.hd,I.ok.frames,.inl rfl,fun b hb=>?exf,I.bs,Qv I.ok.bsz I.sz,fun b o e hb=>?noex,nstk,I.stack,I.stkFree⟩,
  rfl,I.bare,Un.kept hk,⟨m,hn,fun i x v e1 e2 e3=>?loc⟩,fun x c e=>?cell,I.hok.fresh hC,fun x c e=>?freeC,fun p hp=>?pin,I.hok.kept hk,vY S σ⟩
 case inj =>
  have e1':((z0,C+1)::bZ X.env scope.names []).lookup x=some c:=e1
  have e2':((z0,C+1)::bZ X.env scope.names []).lookup y=some c:=e2
  rcases qA e1' with ⟨rfl,rfl⟩ | ⟨n1,q1⟩ <;> rcases qA e2' with ⟨rfl,e⟩ | ⟨n2,q2⟩
  ·rfl
  ·exact absurd (clt _ _ (clsub _ _ q2)) (Nat.not_lt.mpr (Zh hC))
  ·subst e
   exact absurd (clt _ _ (clsub _ _ q1)) (Nat.not_lt.mpr (Zh hC))
  ·exact I.ok.inj x y c (clsub x c q1) (clsub y c q2)
 case has =>
  have hx':(relabel scope X.env).names.lookup x=some .cell∨(relabel scope X.env).names.lookup x=some .free:=hx
  show ∃ c,((z0,C+1)::bZ X.env scope.names []).lookup x=some c
  by_cases hz:x=z0
  ·rw [hz,aBQ]
   exact ⟨_,rfl⟩
  ·rw [vZ hz]
   have hl:(relabel scope X.env).names.lookup x=_:=fG (env:=X.env) x scope.names
   rw [hl] at hx'
   cases e:scope.names.lookup x with
   | none =>
    rw [e] at hx'
    rcases hx' with z | z <;> cases z
   | some k =>
    have hmem:=cQ e
    have hkf:k=.free:=by
     rw [e] at hx'
     simp only [Xn,Option.some.injEq] at hx'
     by_cases c:(k==NameKind.free && X.env.scope.kind==.function && X.env.kindOf x==some .cell)=true
     ·simp only [Jr,beq_iff_eq] at c
      exact c.1.1
     ·rw [if_neg c] at hx'
      rcases hx' with z | z
      ·exact absurd (p2 _ hmem z) hz
      ·exact z
    subst hkf
    obtain ⟨c,hc⟩:=I.ok.has x (p4 _ hmem rfl)
    obtain ⟨c',hc'⟩:=iZ (env:=X.env) scope.names [] x (.inr ⟨hmem,c,hc⟩)
    exact iB hc'
 case cab =>
  have e':(x==z0)=true:=e
  have e2':((z0,C+1)::bZ X.env scope.names []).lookup x=some c:=e2
  rcases qA e2' with ⟨_,rfl⟩ | ⟨n1,_⟩
  ·exact Zh hC
  ·exact absurd (by simpa using e') n1
 case exf =>
  refine ⟨below b (hlt b hb),fun x c e=>?_⟩
  have e':((z0,C+1)::bZ X.env scope.names []).lookup x=some c:=e
  rcases qA e' with ⟨_,rfl⟩ | ⟨_,q⟩
  ·exact fun z=>Qu _ (Qi (hlt b hb) (by rw [<- z]; exact Zh hC))
  ·exact (hfp b hb).2.2.2.2.1 x c (clsub x c q)
 case noex =>
  rcases (hfp b hb).2.2.2.1 with z | z
  ·exact I.ok.noex b o e z
  ·exact absurd (Qi (Qm (I.ok.bs b o e).1) z) (Qu _)
 case loc =>
  show ∃ u,bD v u/\aEF _ _ _ x u
  have e1':(own++frn)[i]?=some x:=e1
  have e2':(blk own.length fr σ)[i]?=some (some v):=e2
  unfold blk at e2'
  by_cases hi:i < own.length
  ·rw [Jc (by simpa using hi),Xp] at e2'
   rw [if_pos hi] at e2'
   cases e2'
  ·rw [Jh (by simpa using hi)] at e2'
   rw [Jh (by omega)] at e1'
   rw [Xi,Qe] at e2'
   obtain ⟨j,hj1,hj2⟩:=S.ix _ _ e1'
   rw [hj1] at e2'
   simp only [Xn,Option.some.injEq] at e2'
   have hσ:σ[j]?=some (some v):=by
    cases q:σ[j]? with
    | none=>rw [q] at e2'; cases e2'
    | some w=>rw [q] at e2'; exact congrArg some e2'
   have hfree:=p7 x (Qh e1')
   have hmem:=cQ hfree
   have hxz:x≠z0:=p9 _ hmem rfl
   have kx:=p4 _ hmem rfl
   have vis:Vis X.env.scope x:=by
    rcases kx with z | z
    ·exact .inr (.inl z)
    ·exact .inr (.inr z)
   obtain ⟨m0,hn0,hl0⟩:=I.loc
   obtain ⟨u,ru,lk⟩:=hl0 j x v hj2 hσ vis
   refine ⟨u,ru,.inr ⟨?_,?_⟩⟩
   ·show (relabel scope X.env).names.lookup x=some .cell∨(relabel scope X.env).names.lookup x=some .free
    have hl:(relabel scope X.env).names.lookup x=_:=fG (env:=X.env) x scope.names
    rw [hl,hfree]
    simp only [Xn,Option.some.injEq]
    by_cases c:(NameKind.free==NameKind.free && X.env.scope.kind==.function && X.env.kindOf x==some .cell)=true
    ·rw [if_pos c]; exact .inl rfl
    ·rw [if_neg c]; exact .inr rfl
   ·rcases lk with ⟨kl,_⟩ | ⟨_,c,hc,hcell⟩
    ·have kl':X.env.scope.names.lookup x=some .local:=kl
     rcases kx with z | z <;> (have z':X.env.scope.names.lookup x=_:=z; rw [kl'] at z'; cases z')
    ·obtain ⟨c',hc'⟩:=iZ (env:=X.env) scope.names [] x (.inr ⟨hmem,c,hc⟩)
     obtain ⟨c2,hc2⟩:=iB hc'
     have ec:c2=c:=by
      have:=clsub x c2 hc2
      rw [hc] at this
      exact (Option.some.inj this).symm
     subst ec
     obtain ⟨oc,ho,hd⟩:=hcell
     exact ⟨c2,(vZ hxz).trans hc2,oc,hk _ _ ho,hd⟩
 case cell =>
  have e':((z0,C+1)::bZ X.env scope.names []).lookup x=some c:=e
  rcases qA e' with ⟨_,rfl⟩ | ⟨_,q⟩
  ·exact ⟨none,hcl⟩
  ·obtain ⟨v,o,ho,hd⟩:=I.cell x c (clsub x c q)
   exact ⟨v,o,hk _ _ ho,hd⟩
 case freeC =>
  have e':((z0,C+1)::bZ X.env scope.names []).lookup x=some c:=e
  rcases qA e' with ⟨_,rfl⟩ | ⟨_,q⟩
  ·exact I.hok.fresh (Zh hC)
  ·exact I.freeC x c (clsub x c q)
 case pin =>
  have hp':p∈([]:List (Addr×Obj))++[(D,oD)]:=hp
  simp only [Zg,Qo] at hp'
  subst hp'
  exact ⟨hoD,I.hok.fresh hD,hDC,Dfs,hdD⟩
end
section
variable {X:Cx} {scope:Scope} {z0:Str} {own frn:List Str} {fr:List Nat} {elt tg iter:Expr} {ifs:List Expr} {pos:Pos} {wi:TI} {g:TG} {tt:TT} {te:TE}
theorem oK {pins:List (Addr×Obj)} {σ:St} {H2:Hp} {s2:Shared} {it:Addr} {fp:List Addr} {tn:Nat->Heap->Prop} {J:It} {RR:Value->Addr->Result->Shared->Prop} {E:Value->Shared->Prop} {Q:Hp->List V->Prop}
  (S:CompOk1 X scope z0 own fr frn) (hc:X.calm=true) (I2:Inv X pins σ H2 s2) (T:Turn X.prog X.w X.K tg J fp it tn) (st2:tn 0 s2.heap) (f2:∀ b∈fp,gU X pins H2 b)
  (hg:∀ C s0 H0 fp,PG (bQ X scope z0 (own++frn) C s0 H0 fp) tg g) (ht:∀ C s0 H0 fp,PF (bQ X scope z0 (own++frn) C s0 H0 fp) ifs tt) (he:∀ C s0 H0 fp,PE (bQ X scope z0 (own++frn) C s0 H0 fp) elt te)
  (w:∃ W:Nat->Nat->List V->St->Hp->Prop,(∃ m,W 0 m [] (blk own.length fr σ) H2)/\∀ i m ys σ' H,W i m ys σ' H ->
   (J.stop i H/\Q H ys) ∨
   (J.go i H/\∃ N:List V->St->Hp->Prop,(∀ ys' σ2 H2,N ys' σ2 H2->∃ m',m' < m/\W (i+1) m' ys' σ2 H2) /\
    ∀ x H',J.yld i H x H'->g x σ' H' fun σ2 H2=>tt σ2 H2 fun b H3=>if b=true then te σ2 H3 fun y H4=>ys.length < sizeLine/\N (ys++[y]) σ2 H4 else N ys σ2 H3))
  (hRR:∀ (C D:Addr) (s':Shared) (H':Hp) (ys:List V) (its:Array Value) (m:Str->Option Value),s2.heap.objs.size<=C->s2.heap.objs.size<=D->D≠C->s'.heap.Ns C m->H' C=none->H' D=none->s'.heap.PlainList D its->bA ys its.toList->ys.length<=sizeLine ->
   Inv X pins σ H' s'->Q H' ys->RR (.ref D) C (.ok .next) s') :
  wpAny (model X.prog X.w) X.A (newList []) (fun acc s₃=>wpAny (model X.prog X.w) X.A (newFunctionEnv scope X.env.globals (bZ X.env scope.names []) [] X.env.qual none .none (some X.env)) (fun cenv s₄ =>
   codeAny (model X.prog X.w) X.A (.compStart (.ListComp elt [⟨tg,iter,ifs,0⟩] scope pos) 0 (.ref it) acc { cenv with scope:=relabel scope X.env }) (RR acc cenv.locals) s₄) E s₃) E s2:=by
 obtain ⟨p1,p2,p3,p4,p5,p7,p8,p9⟩:=S.parts
 obtain ⟨W,⟨m0,w0⟩,turn⟩:=w
 refine wpAny_newObj_type (aDl S.cf S.pc ?_)
 dsimp only
 generalize hH2:s2.heap.push { cls:=.type "list",dict:=none,data:=.seq ([]:List Value).toArray }=HD
 generalize hh1:(HD.push { cls:=.type "dict",data:=.dict #[] }).push { cls:=.type "cell",data:=.cell none }=h₁
 have hCs:HD.objs.size=s2.heap.objs.size+1:=by rw [<- hH2,Xf]
 have hns₁:h₁.Ns HD.objs.size (fun _=>none):=by rw [<- hh1]; exact (Heap.Ns.new HD (.type "dict")).push _
 have hcell:h₁.IsCell (HD.objs.size+1) none:=by
  rw [<- hh1]
  refine ⟨{ cls:=.type "cell",data:=.cell none },?_,rfl⟩
  have e:=Qq (HD.push { cls:=.type "dict",data:=.dict #[] }) (o:={ cls:=.type "cell",data:=.cell none }) rfl
  rw [Xf] at e
  exact e
 have hDC:s2.heap.objs.size≠HD.objs.size:=by omega
 have hCle:s2.heap.objs.size<=HD.objs.size:=by omega
 have below:∀ b,b < s2.heap.objs.size->b≠HD.objs.size/\b≠s2.heap.objs.size:=fun b hb=>⟨by omega,by omega⟩
 have old:∀ b o,s2.heap.get? b=some o->h₁.get? b=some o:=fun b o e=>by rw [<- hh1]; exact Qc _ (Qc _ (hH2 ▸ Qc _ e))
 have hacc:h₁.get? s2.heap.objs.size=some { cls:=.type "list",data:=.seq ([]:List Value).toArray }:=by rw [<- hh1]; exact Qc _ (Qc _ (hH2 ▸ Qq _ rfl))
 have flt:∀ b∈fp,b < s2.heap.objs.size:=fun b hb=>by
  obtain ⟨o,e,_⟩:=T.obj _ _ st2 b hb
  exact Qm e
 generalize hDg:s2.heap.objs.size=D at *
 generalize hCg:HD.objs.size=C at *
 have st3:tn 0 h₁:=T.keep _ _ _ st2 fun b _ o e=>old b o e
 -- facts of the block
 have clsub:∀ x c,(bZ X.env scope.names []).lookup x=some c->X.env.cells.lookup x=some c:=fun x c e=>by
  rcases gO _ _ _ _ (cQ e) with q | q
  ·cases q
  ·exact q
 have hcs:∀ x c,((z0,C+1)::bZ X.env scope.names []).lookup x=some c->c=C+1∨X.env.cells.lookup x=some c:=fun x c e=>by
  rcases qA e with ⟨_,e⟩ | ⟨_,e⟩
  ·exact .inl e
  ·exact .inr (clsub x c e)
 have cD:∀ x c,((z0,C+1)::bZ X.env scope.names []).lookup x=some c->c≠D:=fun x c e z=>by
  rcases hcs x c e with e | e
  ·omega
  obtain ⟨v,q⟩:=I2.cell x c e
  exact Qu _ (Qi q.lt (by rw [hDg,z]; exact Qk _))
 have loop:∀ s₃:Shared,s₃={ s2 with heap:=h₁,toks:=s2.toks } ->
   codeAny (model X.prog X.w) X.A (.compLoop (.ListComp elt [⟨tg,iter,ifs,0⟩] scope pos) 0 (.ref it) (.ref D) (aBP X scope z0 C)) (RR (.ref D) C) s₃:=by
  rintro s₃ rfl
  have I3:Inv (bQ X scope z0 (own++frn) C s2 H2 fp) [(D,_)] (blk own.length fr σ) H2 { s2 with heap:=h₁,toks:=s2.toks } :=
   aAM (m:=fun _=>none) I2 S f2 (by rw [hDg]; exact flt) (by rw [hDg]; exact hCle) (hns₁:h₁.Ns C _) old (by rw [hDg]; exact Qk _) hDC hacc (fun v z=>by cases z) hcell
  have stat:∀ {H':Hp} {pl:List (Addr×Obj)},(∀ p∈pl,p.1=D)->(∀ b∈fp,H' b=none)->∀ b∈fp,gU (bQ X scope z0 (own++frn) C s2 H2 fp) pl H' b:=fun {H' pl} hpl hn b hb=>by
   refine ⟨hn b hb,(below b (flt b hb)).1,fun z=>?_,.inl hb,fun x c e=>(by
    rcases hcs x c e with e | e
    ·exact fun z=>Qu _ (Qi (flt b hb) (by rw [<- z,e]; exact Zh hCle))
    ·exact (f2 b hb).2.2.2.2.1 x c e),fun p hp=>?_⟩
   ·have z':b∈frs X.stack:=z
    rcases Qp.mp (I2.stkSub b z') with e | e
    ·exact (f2 b hb).2.1 e
    ·exact (f2 b hb).2.2.1 e
   ·have hp':p∈pl:=by simpa [bQ] using hp
    rw [hpl p hp']
    exact Ne.symm (below b (flt b hb)).2
  refine oJ (env:=aBP X scope z0 C) (fun n s'=>∃ i σ' H' ys its o,Inv (bQ X scope z0 (own++frn) C s2 H2 fp) [(D,o)] σ' H' s'/\s'.heap.PlainList D its/\bA ys its.toList/\ys.length<=sizeLine/\tn i s'.heap/\(∀ b∈fp,H' b=none)/\W i n ys σ' H') ?_ m0
   ⟨0,_,H2,[],#[],_,I3,⟨_,hacc⟩,.nil,Jj _,st3,fun b hb=>(f2 b hb).1,w0⟩
  rintro n s5 ⟨i,σ5,H5,ys,its,o,I5,pl5,v5,z5,st5,fr5,w5⟩
  have one:∀ {o:Obj},∀ p∈[(D,o)],p.1=D:=fun p hp=>by
   have e:=Qo.mp hp
   rw [e]
  rcases turn i n ys σ5 H5 w5 with ⟨stop,qn⟩ | ⟨go,N,hN,step⟩
  ·refine wpAny_mono (T.done (bQ X scope z0 (own++frn) C s2 H2 fp) rfl rfl rfl hc i _ s5 σ5 H5 (fun _ _=>False) I5 (stat one fr5) st5 stop) (fun r s6 hx9=>?_) fun _ _ z=>z
   obtain ⟨hr,I6⟩:=hx9
   subst hr
   obtain ⟨m6,hn6,_⟩:=I6.loc
   have p6:=I6.pin (D,o) (by simp [bQ])
   have p5':=I5.pin (D,o) (by simp [bQ])
   have pl6:s6.heap.PlainList D its:=by
    obtain ⟨k,e⟩:=pl5
    have e1:o=_:=Option.some.inj (p5'.1.symm.trans e)
    exact ⟨k,by rw [p6.1]; exact congrArg some e1⟩
   have IX:Inv X pins σ H5 s6:=I2.call' (ch:=fp) I6.os I6.base I6.hok I6.bare fun b hb=>⟨(f2 b hb).2.2.2.1,(f2 b hb).2.1,(f2 b hb).2.2.2.2.1,(f2 b hb).2.2.2.2.2⟩
   exact hRR C D s6 H5 ys its m6 hCle (Qk _) hDC hn6 I6.free p6.2.1 pl6 v5 z5 IX qn
  ·refine wpAny_mono (T.item (bQ X scope z0 (own++frn) C s2 H2 fp) rfl rfl rfl hc i _ s5 σ5 H5 (fun _ _=>False) I5 (stat one fr5) st5 go) (fun r s6 hx9=>?_) fun _ _ z=>z
   obtain ⟨u,hr,h6⟩:=hx9
   subst hr
   refine wpAny_mono h6 (fun _ s7 hx9=>?_) fun _ _ z=>z
   obtain ⟨x,H7,I7,r7,y7,st7,fr7⟩:=hx9
   have I7':=I7.pinned (stat one fr7) (T.obj _ _ st7)
   refine wpAny_mono (hg C s2 H2 fp _ s7 σ5 H7 x u _ I7' r7 (step x H7 y7)) (fun _ s8 hx9=>?_) fun _ _ z=>z
   obtain ⟨σ8,H8,I8,q8⟩:=hx9
   refine wpAny_mono (ht C s2 H2 fp _ s8 σ8 H8 _ I8 q8) (fun b s9 hx9=>?_) fun _ _ z=>z
   obtain ⟨H9,I9,q9⟩:=hx9
   -- what stands of the iterator and of the gathered list behind the tests,behind the item
   have keepT:∀ {H':Hp} {s':Shared} {σ':St},Inv (bQ X scope z0 (own++frn) C s2 H2 fp) ([(D,o)]++jU fp s7.heap) σ' H' s'->tn (i+1) s'.heap/\(∀ b∈fp,H' b=none)/\s'.heap.PlainList D its/\H' D=none:=fun {H' s' σ'} I'=>by
    refine ⟨T.keep _ _ _ st7 fun b hb o e=>(I'.pin (b,o) (Qj _ (Qj _ (bY hb e)))).1,fun b hb=>?_,?_,?_⟩
    ·obtain ⟨o,e,d⟩:=T.obj _ _ st7 b hb
     exact (I'.pin (b,o) (Qj _ (Qj _ (bY hb e)))).2.1
    ·have p':=I'.pin (D,o) (by simp [bQ])
     have p5':=I5.pin (D,o) (by simp [bQ])
     obtain ⟨k,e⟩:=pl5
     have e1:o=_:=Option.some.inj (p5'.1.symm.trans e)
     exact ⟨k,by rw [p'.1]; exact congrArg some e1⟩
    ·exact (I'.pin (D,o) (by simp [bQ])).2.1
   cases b with
   | false =>
    rw [if_neg Qw] at q9
    rw [if_neg Qw]
    obtain ⟨m',hm,w'⟩:=hN ys σ8 H9 q9
    obtain ⟨t9,fr9,pl9,_⟩:=keepT I9
    exact ⟨m',hm,i+1,σ8,H9,ys,its,o,I9.unpinned,pl9,v5,z5,t9,fr9,w'⟩
   | true =>
    rw [if_pos rfl] at q9
    rw [if_pos rfl]
    refine wpAny_mono (he C s2 H2 fp _ s9 σ8 H9 _ I9 q9) (fun y s10 hx9=>?_) fun _ _ z=>z
    obtain ⟨yv,H10,I10,r10,lt10,q10⟩:=hx9
    obtain ⟨t10,fr10,pl10,hD10⟩:=keepT I10
    have hl:=v5.length
    refine wpAny_list_append_plain pl10 (fun h11 pl11 sb11=>?_) (by rw [<- Array.length_toList,<- hl]; exact Zo lt10)
    obtain ⟨m',hm,w'⟩:=hN _ σ8 H10 q10
    have I10':Inv (bQ X scope z0 (own++frn) C s2 H2 fp) [] σ8 H10 s10:=I10.pins_of fun p hp=>by cases hp
    have I11:Inv (bQ X scope z0 (own++frn) C s2 H2 fp) [] σ8 H10 { s10 with heap:=h11 } :=
     I10'.turned (t':=s10.toks) (it:=D) (fun b o hb e=>(sb11.2 b hb).trans e) hD10 hDC (.inr (by show s2.heap.objs.size<=D; rw [hDg]; exact Qk _)) cD (fun p hp=>by simp [bQ] at hp)
    obtain ⟨k11,e11⟩:=id pl11
    have DfsX:D∉frs X.stack:=fun z=>by
     rcases Qp.mp (I2.stkSub D z) with e | e
     ·exact Qu _ (Qi I2.lt (by rw [hDg,e]; exact Qk _))
     ·exact I2.nofs (by rw [hDg]; exact Qk _) e
    refine ⟨m',hm,i+1,σ8,H10,ys++[yv],its.push y,{ cls:=.type "list",data:=.seq (its.push y) k11 },I11.pins_of fun p hp=>?_,pl11,?_,by rw [Qr]; show ys.length+1<=_; omega,T.keep _ _ _ t10 fun b hb o e=>(sb11.2 b (below b (flt b hb)).2).trans e,fr10,w'⟩
    ·have e:=Qo.mp hp
     subst e
     exact ⟨e11,hD10,hDC,DfsX,fun v z=>by cases z⟩
    ·rw [Array.toList_push]
     exact v5.append (.cons r10 .nil)
 exact codeAny_compStart_list (loop _ rfl) (T.self X.A 0 _ _ _ st3 (loop _ rfl))
theorem CompOk1.clo {pins:List (Addr×Obj)} {σ:St} {H:Hp} {s:Shared} (S:CompOk1 X scope z0 own fr frn) (I:Inv X pins σ H s):closureFor scope X.env=pure (bZ X.env scope.names []):=by
 obtain ⟨p1,p2,p3,p4,p5,p7,p8,p9⟩:=S.parts
 exact yD fun y hy e=>I.ok.has y.1 (p4 y hy e)
theorem aBR (S:CompOk1 X scope z0 own fr frn) (hc:X.calm=true) (hi:PI X tg iter wi) (hg:∀ C s0 H0 fp,PG (bQ X scope z0 (own++frn) C s0 H0 fp) tg g) (ht:∀ C s0 H0 fp,PF (bQ X scope z0 (own++frn) C s0 H0 fp) ifs tt)
  (he:∀ C s0 H0 fp,PE (bQ X scope z0 (own++frn) C s0 H0 fp) elt te) (hs:∀ x,foldedSetIterable iter X.env x=pure x:=by intro _; rfl) :
  PE X (.ListComp elt [⟨tg,iter,ifs,0⟩] scope pos) (zR own.length fr wi g tt te):=by
 intro pins s σ H Q I h
 obtain ⟨p1,p2,p3,p4,p5,p7,p8,p9⟩:=S.parts
 rw [eval_ListComp]
 refine wpAny_comprehension_free (use:=none) rfl hs (S.clo I) p1 p3 (thn (hi pins s σ H _ I h) fun v s1 h1=>thn h1 fun itv s2 h2=>?_)
 obtain ⟨it,fp,tn,J,H2,e,I2,T,st2,f2,hw⟩:=h2
 subst e
 refine oK (RR:=fun acc C=>compPost (model X.prog X.w) X.A X.xe none (EP X pins σ Q) acc C) (Q:=fun H ys=>∀ p,H p=none->Q (.ref p) (upd H p (.lst ys))) S hc I2 T st2 f2 hg ht he hw ?_
 intro C D s' H' ys its m hC hD hDC hns hHC hHD pl v z IX q
 have cne:∀ a,s2.heap.objs.size<=a->∀ x c,X.env.cells.lookup x=some c->c≠a:=fun a ha x c e z=>by
  obtain ⟨v,w⟩:=I2.cell x c e
  exact Qu _ (Qi w.lt (by rw [z]; exact ha))
 have pne:∀ a,s2.heap.objs.size<=a->∀ p∈X.pn++pins,p.1≠a:=fun a ha p hp z=>Qu _ (Qi (Qm (I2.pin p hp).1) (by rw [z]; exact ha))
 have lne:∀ a,s2.heap.objs.size<=a->a≠X.env.locals:=fun a ha z=>Qu _ (Qi I2.lt (by rw [<- z]; exact ha))
 refine ⟨m,hns,fun h' hs'=>⟨.ref D,upd H' D (.lst ys),?_,rfl,q D hHD⟩⟩
 have IT:Inv X pins σ (upd H' D (.lst ys)) s':=IX.track pl v z hHD (lne D hD) (Qv I2.sz hD) (cne D hD) (pne D hD)
 exact IT.turned (t':=s'.toks) (it:=C) (fun b o hb e=>(hs'.2 b hb).trans e) (by rw [aG (Ne.symm hDC)]; exact hHC) (lne C hC) (.inr (Qv I2.sz hC)) (cne C hC) (pne C hC)
theorem oM {i:Nat} {y:Str} {py spos:Pos} (S:CompOk1 X scope z0 own fr frn) (hc:X.calm=true) (hN:X.N.Nodup) (hyi:X.N[i]?=some y) (hx:X.env.scope.names.lookup y=some .local)
  (hsw:swapsWith (.ListComp elt [⟨tg,iter,ifs,0⟩] scope pos) (some (.Name y py)) spos.line X.env=pure true)
  (hi:PI X tg iter wi) (hg:∀ C s0 H0 fp,PG (bQ X scope z0 (own++frn) C s0 H0 fp) tg g) (ht:∀ C s0 H0 fp,PF (bQ X scope z0 (own++frn) C s0 H0 fp) ifs tt)
  (he:∀ C s0 H0 fp,PE (bQ X scope z0 (own++frn) C s0 H0 fp) elt te) (hs:∀ x,foldedSetIterable iter X.env x=pure x:=by intro _; rfl) :
  PS X (.Assign [.Name y py] (.ListComp elt [⟨tg,iter,ifs,0⟩] scope pos) spos) (aC6 (zR own.length fr wi g tt te) (bN i)):=by
 intro pins s σ H D I h
 obtain ⟨p1,p2,p3,p4,p5,p7,p8,p9⟩:=S.parts
 rw [exec_Assign_Name_used _ _ _ _ hsw]
 refine wpAny_bind (wpAny_standAt (wpAny_bind ?_))
 show wpAny _ X.A (do let _<-comprehension (.ListComp elt [⟨tg,iter,ifs,0⟩] scope pos) scope X.env _ (newList []) false (eval iter X.env) (some (assign (.Name y py) X.env))) _ _ s
 refine wpAny_bind (wpAny_mono (wpAny_comprehension_free (use:=some (assign (.Name y py) X.env)) (Q:=fun _ s'=>SP X pins D .next s') rfl hs (S.clo I) p1 p3 (thn (hi pins s σ H _ I h) fun v s1 h1=>thn h1 fun itv s2 h2=>?_))
  (fun _ s' hq=>wpAny_pure (wpAny_pure hq)) fun _ _ e=>e)
 obtain ⟨it,fp,tn,J,H2,e,I2,T,st2,f2,hw⟩:=h2
 subst e
 refine oK (RR:=fun acc C=>compPost (model X.prog X.w) X.A X.xe (some (assign (.Name y py) X.env)) (fun _ s'=>SP X pins D .next s') acc C) (Q:=fun H ys=>∀ p,H p=none->D.nx (σ.set i (some (.ref p))) (upd H p (.lst ys))) S hc I2 T st2 f2 hg ht he hw ?_
 intro C L s' H' ys its m hC hL hLC hns hHC hHL pl v z IX q
 have cne:∀ a,s2.heap.objs.size<=a->∀ x c,X.env.cells.lookup x=some c->c≠a:=fun a ha x c e z=>by
  obtain ⟨v,w⟩:=I2.cell x c e
  exact Qu _ (Qi w.lt (by rw [z]; exact ha))
 have pne:∀ a,s2.heap.objs.size<=a->∀ p∈X.pn++pins,p.1≠a:=fun a ha p hp z=>Qu _ (Qi (Qm (I2.pin p hp).1) (by rw [z]; exact ha))
 have lne:∀ a,s2.heap.objs.size<=a->a≠X.env.locals:=fun a ha z=>Qu _ (Qi I2.lt (by rw [<- z]; exact ha))
 have IT:Inv X pins σ (upd H' L (.lst ys)) s':=IX.track pl v z hHL (lne L hL) (Qv I2.sz hL) (cne L hL) (pne L hL)
 show wpAny _ _ (assign (.Name y py) X.env (.ref L)) _ _ s'
 refine wpAny_assign_Name (nJ IT hN hyi (.inl hx) (v:=.ref L) rfl (fun s'' I'' hch=>?_) (.inr hx))
 obtain ⟨a,sb,ha⟩:=hch
 have hCa:C≠a:=by
  rcases ha with e | e
  ·rw [e]; exact lne C hC
  ·exact Ne.symm (cne C hC y a e)
 refine ⟨m,hns.sameBut sb hCa,fun h' hs'=>⟨σ.set i (some (.ref L)),upd H' L (.lst ys),?_,q L hHL⟩⟩
 exact I''.turned (t':=s''.toks) (it:=C) (fun b o hb e=>(hs'.2 b hb).trans e) (by rw [aG (Ne.symm hLC)]; exact hHC) (lne C hC) (.inr (Qv I2.sz hC)) (cne C hC) (pne C hC)
end
theorem mF {X:Cx} {scope:Scope} {z0:Str} {own frn:List Str} {fr:List Nat} (sc:Scope) (N:List Str) (h1:X.env.scope=sc) (h2:X.N=N) (cf:∀ (n:Nat) (cl:List (Str×Addr)),cellsFrom n scope.names cl=(z0,n)::cl) (pc:∀ h:Heap,pushCells h scope.names=h.push { cls:=.type "cell",data:=.cell none })
  (h:(mE sc scope z0 own frn && oX N frn fr)=true):CompOk1 X scope z0 own fr frn:=by
 rw [Jr] at h
 obtain ⟨ha,hb⟩:=h
 unfold oX at hb
 simp only [Jr,beq_iff_eq,Jb] at hb
 refine ⟨by rw [h1]; exact ha,fun k x hk=>?_,hb.1.symm,cf,pc⟩
 have hlt:k < fr.length:=by rw [<- hb.1]; exact (Qd.mp hk).1
 refine ⟨fr[k],Qb hlt,?_⟩
 have hm:(x,fr[k])∈frn.zip fr:=by
  refine Qh (i:=k) ?_
  rw [Zd]
  exact ⟨hk,Qb hlt⟩
 rw [h2]
 exact hb.2 _ hm
def aDm (scope sc:Scope):Scope:={ scope with names:=scope.names.map fun (n,k)=>if (k==NameKind.free && sc.kind==.function && sc.names.lookup n==some .cell) then (n,NameKind.cell) else (n,k) }
section
variable {X:Cx}
theorem aAN (hc:X.calm=true):fY X (.builtin "min") (fun xs H Q=>∃ (p:Addr) (ns:List Int),xs = [.ref p]/\SqL X.K H p (ns.map V.int)/\0 < ns.length/\∀ M,M∈ns->(∀ a∈ns,M<=a)->Q (.int M) H):=by
 intro pins s σ H xs us Q I r h
 obtain ⟨p,ns,rfl,hx,hne,q⟩:=h
 obtain ⟨u,rfl,rx⟩:=jJ r
 cases rx
 obtain ⟨its,rv,pl,hz⟩:=I.list hx
 have hi:IntsAre its ns:=kG rv
 obtain ⟨xs,e⟩:=hi.allInts.items
 have hns:ns=xs.toList.map (·.1):=by
  rw [<- hi.numsOf,<- nums_intItems,<- e]
 have hsz:0 < xs.size:=by
  have h3:=hne; rw [hns,Qa,Array.length_toList] at h3; exact h3
 have hl:=pl.isList
 rw [e] at hl
 refine min_intList (I.ok.hd hc) hl hsz fun v h' tk hv hk=>?_
 obtain ⟨t,rfl⟩:=intItems_at hv
 obtain ⟨h1,h2⟩:=argBest_lt (numAt xs) (xs.size - 1)
 refine ⟨.int _,H,I.kept hk,⟨_,rfl⟩,q _ ?_ fun a ha=>?_⟩
 ·rw [hns,numAt_eq]; exact getD_mem (by rw [Qa,Array.length_toList]; omega)
 ·rw [hns] at ha
  obtain ⟨j,hj,rfl⟩:=mem_getD ha
  rw [Qa,Array.length_toList] at hj
  rw [<- numAt_eq]; exact h2 j (by omega)
end
theorem aBS:bootBuiltins "min" = some (.builtin "min"):=by decide +kernel
section
variable {P:Program} {w:World} {K:PySem.W.Frag} {mg:Str->Option Value} {base:Heap} {N:List Str} {qual:Str} {scope:Scope} {f:Addr} {cd:Value} {A:Around} {outer:List Env} {s0:Shared} {H0:Hp} {E:XK}
end
abbrev vbm:List Value:=[.type "ValueError",.type "Exception",.type "BaseException",.type "object"]
def qns:List Str:=["__init__", "__getattribute__", "__getattr__", "__class__"]
inductive TailN (h:Heap) (bmB:List Value):List Value->Prop
 | base:TailN h bmB bmB
 | own {A:Addr} {c0:Value} {dd:Option Addr} {cd:ClassData} {sl:Array (Option Value)} {mA:Str->Option Value} {tl:List Value} :
   h.get? A=some { cls:=c0,dict:=dd,data:=.cls cd,slots:=sl }->h.Ns cd.ns mA->(∀ n∈qns,mA n=none)->TailN h bmB tl->TailN h bmB (.ref A::tl)
theorem TailN.tail {h:Heap} {bmB tl:List Value} (T:TailN h bmB tl):OwnTail h bmB tl:=by
 induction T with
 | base=>exact .base
 | own hA hN hq _ ih=>exact .own hA hN (hq _ (.head _)) ih
theorem TailN.keeps {h h':Heap} {bmB tl:List Value} (T:TailN h bmB tl) (hk:∀ b o,h.get? b=some o->h'.get? b=some o):TailN h' bmB tl:=by
 induction T with
 | base=>exact .base
 | own hA hN hq _ ih=>exact .own (hk _ _ hA) (hN.keeps hk) hq ih
def EcH (h:Heap) (C:Addr) (bm:List Value):Prop:=∃ N nm q bs hdct sn sub ab col dd k0 k1 k2 k3 k5 mN,h.get? C=some (excClassObj nm q C N bs bm hdct sn sub ab col dd k0 k1 k2 k3 k5 "ValueError.__new__")/\h.Ns N mN/\(∀ n∈qns,mN n=none)/\TailN h vbm bm
theorem EcH.keeps {h h':Heap} {C:Addr} {bm:List Value} (x:EcH h C bm) (hk:∀ b o,h.get? b=some o->h'.get? b=some o):EcH h' C bm:=by
 obtain ⟨N,nm,q,bs,hdct,sn,sub,ab,col,dd,k0,k1,k2,k3,k5,mN,hC,hN,hq,T⟩:=x
 exact ⟨N,nm,q,bs,hdct,sn,sub,ab,col,dd,k0,k1,k2,k3,k5,mN,hk _ _ hC,hN.keeps hk,hq,T.keeps hk⟩
section
variable {M:Model} {prog:Program} {w:World} {A:Around} {E:Value->Shared->Prop} {h:Heap} {g:Array GenState} {d:Drawn} {t:Nat} {os:OsState} {a C:Addr} {o:Obj} {bm:List Value}
theorem EcH.has {T:String} (x:EcH h C bm) (hb:vbm.contains (.type T)=true):(Value.ref C::bm).contains (.type T)=true:=by
 obtain ⟨N,nm,q,bs,hdct,sn,sub,ab,col,dd,k0,k1,k2,k3,k5,mN,hC,hN,hmN,TT⟩:=x
 rw [List.contains_cons,TT.tail.hasType hb,Bool.or_true]
end
section
variable {X:Cx}
end
section
variable {P:Program} {w:World} {l:List Env} {H H':Hp} {s s':Shared} {E:XK} {a T C:Addr}
end
section
variable {X:Cx} {pins:List (Addr×Obj)} {σ:St} {H:Hp} {s s':Shared} {E:XK} {e:Value} {M:Model} {A:Around} {F:Value->Shared->Prop} {L:Addr}
end
section
variable {M:Model} {A:Around} {E:Value->Shared->Prop} {h:Heap} {g:Array GenState} {d:Drawn} {t:Nat} {os:OsState} {a C C':Addr} {oe:Obj} {bm bm':List Value}
end
section
variable {X:Cx} {k:Nat} {f:Addr} {fd:FuncData} {ps:List Str} {sp:Sp} {dvs:List V} {ds:List Value} {x:Str} {p pos apos:Pos} {e:Expr} {es:List Expr} {t:TA}
end
section
variable {X:Cx} {K:PySem.W.Frag}
end
structure PEo (X:Cx) (e:Expr) (t:TE):Prop where
 go:PE X e t
structure PAo (X:Cx) (es:List Expr) (t:TA):Prop where
 go:PA X es t
structure PSo (X:Cx) (st:Stmt) (t:TS):Prop where
 go:PS X st t
structure PSso (X:Cx) (sts:List Stmt) (t:TS):Prop where
 go:PSs X sts t
section
variable {X:Cx} {pos:Pos} {e a b:Expr} {es:List Expr} {te ta tb:TE} {t:TA} {st:Stmt} {iP:List Stmt} {ts us:TS}
end
def tDt (K:PySem.W.Frag) (Z:List Addr) (S:St->Prop) (d:PyData):TE:=fun σ H Q=>S σ/\Fx Z H/\∀ v H',aE H H'->Den K (Vw Z H') d v->Q v H'
def tDA (K:PySem.W.Frag) (Z:List Addr) (S:St->Prop) (ds:List PyData):TA:=fun σ H Q=>S σ/\Fx Z H/\∀ vs H',aE H H'->aR K (Vw Z H') ds vs->Q vs H'
structure Dt (X:Cx) (K:PySem.W.Frag) (Z:List Addr) (S:St->Prop) (e:Expr) (d:PyData):Prop where
 go:PE X e (tDt K Z S d)
structure DA (X:Cx) (K:PySem.W.Frag) (Z:List Addr) (S:St->Prop) (es:List Expr) (ds:List PyData):Prop where
 go:PA X es (tDA K Z S ds)
section
variable {X:Cx} {K:PySem.W.Frag} {Z:List Addr} {S:St->Prop} {te:TE} {pos:Pos} {e a b:Expr} {es:List Expr} {d:PyData} {ds:List PyData}
theorem PE.imp {t t':TE} (h:PE X e t) (q:∀ σ H Q,t' σ H Q->t σ H Q):PE X e t':=fun pins s σ H Q I z=>h pins s σ H Q I (q σ H Q z)
theorem PA.imp {t t':TA} (h:PA X es t) (q:∀ σ H Q,t' σ H Q->t σ H Q):PA X es t':=fun pos pins s σ H Q I z=>h pos pins s σ H Q I (q σ H Q z)
theorem PSso.ex {sts:List Stmt} {t:TS} {R:TS->Prop} (h:PSso X sts t) (r:R t):∃ t,PSs X sts t/\R t:=⟨t,h.go,r⟩
end
section
variable {X:Cx} {tg l:Expr} {body:List Stmt} {tl:TE} {g:TG} {tb:TS} {pos:Pos}
end
section
variable {prog:Program} {w:World} {A:Around} {E:Value->Shared->Prop} {s:Shared}
end
section
variable {X:Cx}
end
section
variable {prog:Program} {w:World} {A:Around} {E:Value->Shared->Prop} {s:Shared} {e it l:Addr} {n:Nat} {P:Nat->Value->Prop} {st:Nat->Heap->Prop}
theorem aBT {i:Nat} {old:Value} {Q:Value->Shared->Prop} (S:Sub prog w it l n P st) (hei:e≠it) (hel:l≠e) (he:IsEnum s.heap e it i old) (h1:st i s.heap) (hi:i < n)
  (hQ:∀ h' x tk,P i x->IsEnumOut h' e it ((i:Int)+1) x s.heap.objs.size->st (i+1) h'->h'.get? s.heap.objs.size=some { cls:=.type "tuple",data:=.seq #[.int i tk,x] } ->
   (∀ c o,c≠e->c≠it->s.heap.get? c=some o->h'.get? c=some o)->Q (.ref s.heap.objs.size) { s with heap:=h',toks:=s.toks+1 }) :
  wpAny (model prog w) A (Builtin.«enumerate.__next__» ⟨[.ref e],[]⟩) (fun fin s'=>∃ v,fin=.done (.ret v)/\Q v s') E s:=by
 refine wpAny_bind (m:=field (.ref e) 2) (wpAny_field he rfl (x:=.ref it) rfl ?_)
 refine wpAny_bind (m:=Builtin.SmallTypes.nextOf (.ref it)) (S.item _ i _ _ _ hi h1 fun x g1 px t1 b1=>?_)
 have e1:IsEnum g1 e it i old:=b1.extBut _ _ hei he
 refine wpAny_bind (m:=field (.ref e) 3) (wpAny_field e1 rfl (x:=rawInt i) rfl ?_)
 refine wpAny_bind (m:=field (.ref e) 4) (wpAny_field e1 rfl (x:=.none) rfl ?_)
 refine wpAny_bind (m:=mkInt i) (wpAny_mkInt ?_)
 refine wpAny_bind (m:=setField (.ref e) 3 (rawInt ((i:Int)+1))) (wpAny_setField_rec e1 (by simp) fun g2 e2 b2=>?_)
 have e2':IsEnum g2 e it ((i:Int)+1) old:=e2
 refine wpAny_bind (m:=setField (.ref e) 4 .none) (wpAny_setField_rec e2' (by simp) fun g3 e3 b3=>?_)
 have e3':IsEnum g3 e it ((i:Int)+1) old:=e3
 refine wpAny_bind (m:=newTuple [.int i s.toks,x]) (wpAny_newTuple ?_)
 have sz:g3.objs.size=s.heap.objs.size:=by rw [b3.1,b2.1,b1.1]
 have e4:IsEnum (g3.push { cls:=.type "tuple",data:=.seq #[.int i s.toks,x] }) e it ((i:Int)+1) old:=Qc _ e3'
 have T4:(g3.push { cls:=.type "tuple",data:=.seq #[.int i s.toks,x] }).get? s.heap.objs.size=some { cls:=.type "tuple",data:=.seq #[.int i s.toks,x] }:=by rw [<- sz]; exact Qq _ rfl
 have kp4:∀ c o,c≠e->c≠it->s.heap.get? c=some o->(g3.push { cls:=.type "tuple",data:=.seq #[.int i s.toks,x] }).get? c=some o:=fun c o c1 c2 q =>
  Qc _ (b3.extBut _ _ c1 (b2.extBut _ _ c1 (b1.extBut _ _ c2 q)))
 have t4:st (i+1) (g3.push { cls:=.type "tuple",data:=.seq #[.int i s.toks,x] }):=S.keep _ _ _ t1 fun c hc o q=>by
  have c1:c≠e:=by rcases hc with r | r <;> rw [r]; exact Ne.symm hei; exact hel
  exact Qc _ (b3.extBut _ _ c1 (b2.extBut _ _ c1 q))
 have elt:s.heap.objs.size≠e:=Wu (Qm he)
 rw [sz]
 generalize g3.push { cls:=.type "tuple",data:=.seq #[.int i s.toks,x] }=g4 at e4 T4 kp4 t4 ⊢
 refine wpAny_bind (m:=Builtin.SmallTypes.ownedTupleIsFree (.ref e)) ?_
 unfold Builtin.SmallTypes.ownedTupleIsFree
 refine wpAny_bind (wpAny_field e4 rfl (x:=.none) rfl (wpAny_pure ?_))
 simp only [if_true]
 refine wpAny_bind (wpAny_rule ?_)
 refine wpAny_bind (wpAny_field e4 rfl (x:=old) rfl ?_)
 refine wpAny_bind (wpAny_setField_rec e4 (by simp) fun g5 e5 b5=>?_)
 have e5':IsEnum g5 e it ((i:Int)+1) x:=e5
 refine wpAny_bind (m:=Builtin.SmallTypes.ownedTupleHandOut (.ref e) (.ref s.heap.objs.size)) ?_
 unfold Builtin.SmallTypes.ownedTupleHandOut
 refine wpAny_bind (wpAny_setField_rec e5' (by simp) fun g6 e6 b6=>?_)
 have e6':IsEnumOut g6 e it ((i:Int)+1) x s.heap.objs.size:=e6
 refine wpAny_setField_rec e6' (by simp) fun g7 e7 b7=>?_
 have e7':IsEnumOut g7 e it ((i:Int)+1) x s.heap.objs.size:=e7
 have up:∀ c o,c≠e->g4.get? c=some o->g7.get? c=some o:=fun c o c1 q=>b7.extBut _ _ c1 (b6.extBut _ _ c1 (b5.extBut _ _ c1 q))
 refine wpAny_bind (wpAny_letGo (wpAny_pure ⟨_,rfl,hQ g7 x s.toks px e7' ?_ (up _ _ elt T4) fun c o c1 c2 q=>up c o c1 (kp4 c o c1 c2 q)⟩))
 exact S.keep _ _ _ t4 fun c hc o q=>up c o (by rcases hc with r | r <;> rw [r]; exact Ne.symm hei; exact hel) q
theorem aDn {old:Value} {Q:Fin->Shared->Prop} (hh:A.handled=none) (S:Sub prog w it l n P st) (he:IsEnum s.heap e it n old) (h1:st n s.heap)
  (hE:∀ h' x,Heap.ExtBut it s.heap h'->(∃ o,h'.get? x=some o/\o.cls=.type "StopIteration")->E (.ref x) { s with heap:=h' }) :
  wpAny (model prog w) A (Builtin.«enumerate.__next__» ⟨[.ref e],[]⟩) Q E s:=by
 refine wpAny_bind (m:=field (.ref e) 2) (wpAny_field he rfl (x:=.ref it) rfl ?_)
 exact wpAny_bind (m:=Builtin.SmallTypes.nextOf (.ref it)) (S.done _ _ _ _ hh h1 hE)
end
def Ite (K:PySem.W.Frag) (k:Sk) (a:Addr):It :=
 ⟨fun i H => ∃ xs x, SqK k K H a xs /\ xs[i]? = some x,
  fun i H v H'=>∃ p,H p=none/\v=.ref p/\∀ xs,SqK k K H a xs->∃ x,xs[i]?=some x/\H'=upd H p (.tup [.int (i:Nat),x]),
  fun i H=>∃ xs,SqK k K H a xs/\xs.length=i⟩
theorem aAO {P:Program} {w:World} {K:PySem.W.Frag} {es:List Expr} {x1} {pos:Pos} (k:Sk) (a e it:Addr) (hei:e≠it) :
  Turn P w K (.Tuple es x1 pos) (Ite K k a) [e,it] e (fun i h=>(∃ old,IsEnum h e it i old)/\ItK k h it a i) where
 mem:=by simp
 obj:=fun i h st c hc=>by
  obtain ⟨⟨old,he⟩,h1⟩:=st
  simp only [Qp,Ja,or_false] at hc
  rcases hc with rfl | rfl
  ·exact ⟨_,he,fun v q=>by cases q⟩
  ·exact h1.obj
 keep:=fun i h h' st kp=>by
  obtain ⟨⟨old,he⟩,h1⟩:=st
  exact ⟨⟨old,kp e (by simp) _ he⟩,h1.at fun o q=>kp it (by simp) o q⟩
 item:=by
  intro X hP hw hK hc i pins s σ H E I hf st hg
  subst hP hw hK
  obtain ⟨⟨old,he⟩,h1⟩:=st
  obtain ⟨xs,x,ha,hx⟩:=hg
  obtain ⟨its,rv,pa⟩:=I.seqK ha
  obtain ⟨u,hu,ru⟩:=rv.get hx
  have na:∀ c∈[e,it],a≠c:=fun c hc'=>I.seq_ne ha (hf c hc')
  have hT:s.TypeIs (.ref e) "enumerate" := ⟨_,he,rfl⟩
  have hi1:i < its.toArray.size:=by rw [Qs]; exact (Qd.mp hu).1
  unfold pyNext
  refine wpAny_bind (wpAny_attempt (wpAny_callSpecial?_slot (name:=Str.ofString "__next__") hT PySem.F.slot_enumerate_next (wpAny_call_entry PySem.F.slot_enumerate_next hT PySem.F.entry_enumerate_next
   (aBT (aAK k X.prog X.w it a its.toArray (na it (by simp))) hei (na e (by simp)) he ⟨h1,pa⟩ hi1 fun h' u' tk pu he' s1 hT' kp=>wpAny_pure ?_) (PySem.F.args_enumerate_next_1 _))))
  have eu:u'=u:=by
   have q:its[i]?=some u':=by simpa using pu
   rw [hu] at q
   exact (Option.some.inj q).symm
  subst eu
  refine ⟨_,rfl,wpAny_letOwnedTupleGo_enum he' fun h2 he2 sb2=>?_⟩
  have Te:s.heap.objs.size≠e:=Wu (Qm he)
  have hT2:h2.get? s.heap.objs.size=some { cls:=.type "tuple",data:=.seq #[.int i tk,u'] }:=sb2.extBut _ _ Te hT'
  have hf0:=I.hok.fresh (Qk s.heap.objs.size)
  have fz:=I.fpOk (Qk s.heap.objs.size) hf0
  have I2:Inv X pins σ H { s with heap:=h2,toks:=s.toks+1 }:=by
   refine I.turnedL (t':=s.toks+1) [e,it] (fun c o hc' q=>?_) hf
   simp only [Qp,Ja,or_false,not_or] at hc'
   exact sb2.extBut _ _ hc'.1 (kp c o hc'.1 hc'.2 q)
  have I3:Inv X pins σ (upd H s.heap.objs.size (.tup [.int (i:Nat),x])) { s with heap:=h2,toks:=s.toks+1 }:=by
   refine I2.trackO (show bW X.prog X.w _ _ _ (.tup [.int (i:Nat),x]) from ⟨by show 2<=sizeLine; rw [sizeLine_eq]; decide,[.int i tk,u'],0,.cons ⟨tk,rfl⟩ (.cons ru .nil),hT2⟩) hf0 fz.2.1 I.sz fz.2.2.2.2.1 fz.2.2.2.2.2
  refine ⟨.ref s.heap.objs.size,_,I3,rfl,⟨s.heap.objs.size,hf0,rfl,fun xs' ha'=>?_⟩,⟨⟨_,by simpa using he2⟩,s1.1.at fun o q=>sb2.extBut _ _ (Ne.symm hei) q⟩,fun c hc'=>?_⟩
  ·rw [I.seqK_inj ha' ha]
   exact ⟨x,hx,rfl⟩
  ·have cl:c≠s.heap.objs.size:=by
    obtain ⟨o,q⟩:∃ o,s.heap.get? c=some o:=by
     simp only [Qp,Ja,or_false] at hc'
     rcases hc' with rfl | rfl
     ·exact ⟨_,he⟩
     ·obtain ⟨o,q,_⟩:=h1.obj; exact ⟨o,q⟩
    exact Jq (Qm q)
   rw [aG cl]
   exact (hf c hc').1
 done:=by
  intro X hP hw hK hc i pins s σ H E I hf st hg
  subst hP hw hK
  obtain ⟨⟨old,he⟩,h1⟩:=st
  obtain ⟨xs,ha,hlen⟩:=hg
  obtain ⟨its,rv,pa⟩:=I.seqK ha
  have la:=rv.length
  have na:∀ c∈[e,it],a≠c:=fun c hc'=>I.seq_ne ha (hf c hc')
  have hT:s.TypeIs (.ref e) "enumerate" := ⟨_,he,rfl⟩
  have ei:i=its.toArray.size:=by rw [Qs]; omega
  subst ei
  unfold pyNext
  refine wpAny_bind (wpAny_attempt (wpAny_callSpecial?_slot (name:=Str.ofString "__next__") hT PySem.F.slot_enumerate_next (wpAny_call_entry PySem.F.slot_enumerate_next hT PySem.F.entry_enumerate_next
   (aDn (I.ok.hd hc) (aAK k X.prog X.w it a its.toArray (na it (by simp))) he ⟨h1,pa⟩ fun h' x kp hx=>?_) (PySem.F.args_enumerate_next_1 _))))
  obtain ⟨oe,hoe,hce⟩:=hx
  refine wpAny_bind (wpAny_isInstance (T := "StopIteration") (b:=true) ⟨oe,hoe,hce⟩ isSubtype_stop (wpAny_pure ⟨rfl,?_⟩))
  refine I.turnedL (t':=s.toks) [e,it] (fun c o hc' q=>?_) hf
  simp only [Qp,Ja,or_false,not_or] at hc'
  exact kp c o hc'.2 q
 self:=fun _ _ _ _ _ st h=>by
  obtain ⟨⟨old,he⟩,_⟩:=st
  exact wpAny_pyIter_enum he h
theorem aAP (k:Sk) (a:Addr) (xs:Array Value) :
  Meets (Builtin.«enumerate.__new__» ⟨[.type "enumerate",.ref a],[]⟩) (fun _ R s=>AtK k s.heap a xs /\
   R (.ok (.ret (.ref (s.heap.push (itK k a)).objs.size))) { s with heap:=(s.heap.push (itK k a)).push { cls:=.type "enumerate",data:=.fields #[.none,.bool false,.ref s.heap.objs.size,rawInt 0,.none,.none] } }) :=
 .of_wp fun prog w A R s h=>by
  obtain ⟨hp,g,d,tk,os⟩:=s
  obtain ⟨hl,h⟩:=h
  have hsub:=sub_enumerate
  have hA:AtK k (Shared.heap ⟨hp,g,d,tk,os⟩) a xs:=hl
  obtain ⟨o,ho,hc⟩:∃ o,hp.get? a=some o/\(o.cls=.type "list" ∨ o.cls=.type "tuple"):=by
   cases k
   ·obtain ⟨o,e,c,_⟩:=hl; exact ⟨o,e,.inl c⟩
   ·obtain ⟨o,e,c,_⟩:=hl; exact ⟨o,e,.inr c⟩
  have hoL:(Shared.heap ⟨hp,g,d,tk,os⟩).get? a=some o:=ho
  wp_walk using AutoSeq1.wpAny_loadPart' hoL
  refine wpAny_stack_any fun st=>wpAny_pure ?_
  split
  ·rename_i c _ _ _ _ _
   cases (c==Value.type "enumerate")
   ·wp_walk using AutoSeq1.wpAny_loadPart' hoL,vV hA
    exact ⟨_,rfl,h⟩
   ·wp_walk using AutoSeq1.wpAny_loadPart' hoL,vV hA
    exact ⟨_,rfl,h⟩
  ·wp_walk using AutoSeq1.wpAny_loadPart' hoL,vV hA
   exact ⟨_,rfl,h⟩
section
variable {X:Cx} {es:List Expr} {x1:Nat} {tpos:Pos}
def aFT (K:PySem.W.Frag) (k:Sk) (ta:TA):TI:=fun σ H R=>ta σ H fun vs H1=>∃ a xs,vs = [.ref a]/\SqK k K H1 a xs/\R (Ite K k a) H1
theorem uD (k:Sk) {a:Expr} {ta:TA} {p pos:Pos} (hg:Gl X "enumerate") (hm:X.mg "enumerate" = none) (ha:PA X [a] ta) (hs:starEach [a] X.env = [(false,eval a X.env)]:=by rfl) :
  PI X (.Tuple es x1 tpos) (.Call (.Name "enumerate" p) [a] [] pos) (aFT X.K k ta):=by
 intro pins s σ H R I h
 refine Call_ (kF (u:=.type "enumerate") I hg hm (by decide +kernel) (PyProof.Rows.callWith_type1 (thn (ha pos pins s σ H _ I h) fun us s1 hx9=>?_) hs rfl))
 obtain ⟨vs,H1,I1,r1,q1⟩:=hx9
 obtain ⟨l,xs,rfl,hA,q⟩:=q1
 obtain ⟨u1,rfl,r1'⟩:=jJ r1
 cases r1'
 obtain ⟨its,rv,pa⟩:=I1.seqK hA
 refine callType_new PySem.F.called_enumerate (by decide) (PySem.F.typeCall_enumerate_1 _) (PySem.F.newCall_enumerate_1 _) (fun obj=>PySem.F.args_object_init_2 obj _) PySem.F.entry_enumerate_new (aAP k l its.toArray) ⟨pa,?_⟩
 have n1:(s1.heap.push (itK k l)).objs.size=s1.heap.objs.size+1:=Xf ..
 have g2:IsEnum ((s1.heap.push (itK k l)).push { cls:=.type "enumerate",data:=.fields #[.none,.bool false,.ref s1.heap.objs.size,rawInt 0,.none,.none] }) (s1.heap.push (itK k l)).objs.size s1.heap.objs.size 0 .none:=Qq _ rfl
 have g1:ItK k ((s1.heap.push (itK k l)).push { cls:=.type "enumerate",data:=.fields #[.none,.bool false,.ref s1.heap.objs.size,rawInt 0,.none,.none] }) s1.heap.objs.size l 0:=(ItK.new k s1.heap l).at fun o e=>Qc _ e
 have kp:∀ c o,s1.heap.get? c=some o->((s1.heap.push (itK k l)).push { cls:=.type "enumerate",data:=.fields #[.none,.bool false,.ref s1.heap.objs.size,rawInt 0,.none,.none] }).get? c=some o:=fun c o e=>Qc _ (Qc _ e)
 generalize (s1.heap.push (itK k l)).push { cls:=.type "enumerate",data:=.fields #[.none,.bool false,.ref s1.heap.objs.size,rawInt 0,.none,.none] }=h2 at g1 g2 kp ⊢
 refine ⟨⟨_,g2,rfl⟩,wpAny_pyIter_enum g2 ?_⟩
 rw [n1] at *
 have I2:Inv X pins σ H1 { s1 with heap:=h2 }:=I1.kept (t':=s1.toks) kp
 refine ⟨s1.heap.objs.size+1,[s1.heap.objs.size+1,s1.heap.objs.size],_,_,H1,rfl,I2,aAO k l (s1.heap.objs.size+1) s1.heap.objs.size (Nat.succ_ne_self _),⟨⟨_,g2⟩,g1⟩,fun c hc=>?_,q⟩
 have hc':s1.heap.objs.size<=c:=by
  simp only [Qp,Ja,or_false] at hc
  rcases hc with r | r
  ·rw [r]; exact Nat.le_add_right _ _
  ·rw [r]; exact Qk _
 exact I1.fpOk hc' (I1.hok.fresh hc')
end
theorem wA {K:PySem.W.Frag} {k:Sk} {a:Addr} {xs:List V} {g:TG} {tb:TS} {D:Ends} {σ:St} {H:Hp} (Pv:Nat->St->Hp->Prop) (h0:Pv 0 σ H) (hl:∀ i σ H,i<=xs.length->Pv i σ H->SqK k K H a xs)
  (hs:∀ i x p σ H,xs[i]?=some x->Pv i σ H->H p=none->g (.ref p) σ (upd H p (.tup [.int (i:Nat),x])) fun σ2 H2=>tb { D with nx:=Pv (i+1),ct:=Pv (i+1),bk:=D.nx } σ2 H2) (hd:∀ σ H,Pv xs.length σ H->D.nx σ H) :
  ∃ W:Nat->Nat->St->Hp->Prop,(∃ m,W 0 m σ H)/\∀ i m σ H,W i m σ H ->
   ((Ite K k a).stop i H/\D.nx σ H)∨((Ite K k a).go i H/\∃ N:St->Hp->Prop,(∀ σ' H',N σ' H'->∃ m',m' < m/\W (i+1) m' σ' H')/\∀ x H',(Ite K k a).yld i H x H'->g x σ H' fun σ2 H2=>tb { D with nx:=N,ct:=N,bk:=D.nx } σ2 H2):=by
 refine ⟨fun i m σ H=>m=xs.length - i/\i<=xs.length/\Pv i σ H,⟨xs.length,by simp,Jj _,h0⟩,?_⟩
 rintro i m σ H ⟨rfl,hi,p⟩
 have q:=hl i σ H hi p
 by_cases hlt:i < xs.length
 ·refine .inr ⟨⟨xs,xs[i],q,Qb hlt⟩,Pv (i+1),fun σ' H' p'=>⟨xs.length - (i+1),by omega,rfl,hlt,p'⟩,fun x H' y=>?_⟩
  obtain ⟨p1,hp1,rfl,y⟩:=y
  obtain ⟨v,hv,rfl⟩:=y xs q
  exact hs i v p1 σ H hv p hp1
 ·have e:i=xs.length:=by omega
  subst e
  exact .inl ⟨⟨xs,q,rfl⟩,hd σ H p⟩
theorem aBU {n:Nat} (h:n<=1000):n<=sizeLine:=by rw [sizeLine_eq]; omega
section
variable {own:Nat} {fr:List Nat} {g:TG} {te:TE} {σ:St} {H:Hp} {Qf:Hp->List V->Prop} {K:PySem.W.Frag}
theorem aDo {vs:List V} {i:Nat} {v:V} (h:vs[i]?=some v):vs.take (i+1)=vs.take i++[v]:=by rw [Yh,h]; rfl
theorem zU {J:It} {n:Nat} {vs:List V} (SH:St->Prop) (hn:n<=1000) (hl:vs.length=n) (hσ:SH (blk own fr σ)) (hstop:∀ H',aE H H'->J.stop n H') (hgo:∀ i H',i < n->aE H H'->J.go i H')
  (hs:∀ i v x σ H1 H2,i < n->vs[i]?=some v->SH σ->aE H H1->J.yld i H1 x H2->∀ Q:V->St->Hp->Prop,(∀ σ2 H4,SH σ2->aE H1 H4->Q v σ2 H4)->g x σ H2 fun σ2 H3=>te σ2 H3 fun y H4=>Q y σ2 H4)
  (hd:∀ H',aE H H'->Qf H' vs) :
  ∃ W:Nat->Nat->List V->St->Hp->Prop,(∃ m,W 0 m [] (blk own fr σ) H)/\∀ i m ys σ' H,W i m ys σ' H ->
   (J.stop i H/\Qf H ys) ∨
   (J.go i H/\∃ N:List V->St->Hp->Prop,(∀ ys' σ2 H2,N ys' σ2 H2->∃ m',m' < m/\W (i+1) m' ys' σ2 H2) /\
    ∀ x H',J.yld i H x H'->g x σ' H' fun σ2 H2=>aBG σ2 H2 fun b H3=>if b=true then te σ2 H3 fun y H4=>ys.length < sizeLine/\N (ys++[y]) σ2 H4 else N ys σ2 H3):=by
 refine lM n (aBU hn) SH (fun i ys H'=>ys=vs.take i/\aE H H') hσ ⟨rfl,aE.refl H⟩ (fun i ys H' p=>by rw [p.1,Jk]; omega) (fun ys H' p=>hstop H' p.2) (fun i ys H' hi p=>hgo i H' hi p.2) ?_ (fun ys H' p=>?_)
 ·rintro i ys σ' x H1 H2 hi sh ⟨rfl,s1⟩ hy hz
  have hv:vs[i]?=some vs[i]:=Qb (by omega)
  have h:=hs i vs[i] x σ' H1 H2 hi hv sh s1 hy (fun y σ2 H4=>(vs.take i).length < sizeLine/\SH σ2/\(vs.take i++[y]=vs.take (i+1)/\aE H H4)) fun σ2 H4 sh2 s4=>⟨hz,sh2,(aDo hv).symm,s1.trans s4⟩
  exact h
 ·obtain ⟨rfl,s1⟩:=p
  rw [Xg (by omega)]
  exact hd H' s1
theorem wB {a:Addr} {xs vs:List V} (SH:St->Prop) (hn:xs.length<=1000) (hl:vs.length=xs.length) (ha:SqL K H a xs) (hσ:SH (blk own fr σ))
  (hs:∀ (i:Nat) x v σ H1,xs[i]?=some x->vs[i]?=some v->SH σ->aE H H1->∀ Q:V->St->Hp->Prop,(∀ σ2 H4,SH σ2->aE H1 H4->Q v σ2 H4)->g x σ H1 fun σ2 H2=>te σ2 H2 fun y H4=>Q y σ2 H4)
  (hd:∀ H',aE H H'->Qf H' vs) :
  ∃ W:Nat->Nat->List V->St->Hp->Prop,(∃ m,W 0 m [] (blk own fr σ) H)/\∀ i m ys σ' H,W i m ys σ' H ->
   ((Itl K a).stop i H/\Qf H ys) ∨
   ((Itl K a).go i H/\∃ N:List V->St->Hp->Prop,(∀ ys' σ2 H2,N ys' σ2 H2->∃ m',m' < m/\W (i+1) m' ys' σ2 H2) /\
    ∀ x H',(Itl K a).yld i H x H'->g x σ' H' fun σ2 H2=>aBG σ2 H2 fun b H3=>if b=true then te σ2 H3 fun y H4=>ys.length < sizeLine/\N (ys++[y]) σ2 H4 else N ys σ2 H3):=by
 refine zU SH hn hl hσ (fun H' s=>⟨xs,s.seqL ha,Qk _⟩) (fun i H' hi s=>⟨xs,xs[i],s.seqL ha,Qb hi⟩) (fun i v x σ H1 H2 hi hv sh s y Q k=>?_) hd
 obtain ⟨e,y⟩:=y
 subst e
 exact hs i x v σ _ (y xs (s.seqL ha)) hv sh s Q k
theorem jA {a:Addr} {xs vs:List V} (SH:St->Prop) (hn:xs.length<=1000) (hl:vs.length=xs.length) (ha:SqT K H a xs) (hσ:SH (blk own fr σ))
  (hs:∀ (i:Nat) x v σ H1,xs[i]?=some x->vs[i]?=some v->SH σ->aE H H1->∀ Q:V->St->Hp->Prop,(∀ σ2 H4,SH σ2->aE H1 H4->Q v σ2 H4)->g x σ H1 fun σ2 H2=>te σ2 H2 fun y H4=>Q y σ2 H4)
  (hd:∀ H',aE H H'->Qf H' vs) :
  ∃ W:Nat->Nat->List V->St->Hp->Prop,(∃ m,W 0 m [] (blk own fr σ) H)/\∀ i m ys σ' H,W i m ys σ' H ->
   ((Itt K a).stop i H/\Qf H ys) ∨
   ((Itt K a).go i H/\∃ N:List V->St->Hp->Prop,(∀ ys' σ2 H2,N ys' σ2 H2->∃ m',m' < m/\W (i+1) m' ys' σ2 H2) /\
    ∀ x H',(Itt K a).yld i H x H'->g x σ' H' fun σ2 H2=>aBG σ2 H2 fun b H3=>if b=true then te σ2 H3 fun y H4=>ys.length < sizeLine/\N (ys++[y]) σ2 H4 else N ys σ2 H3):=by
 refine zU SH hn hl hσ (fun H' s=>⟨xs,s.seqT ha,Qk _⟩) (fun i H' hi s=>⟨xs,xs[i],s.seqT ha,Qb hi⟩) (fun i v x σ H1 H2 hi hv sh s y Q k=>?_) hd
 obtain ⟨e,y⟩:=y
 subst e
 exact hs i x v σ _ (y xs (s.seqT ha)) hv sh s Q k
end
section
variable {X:Cx} {st:Stmt} {iP:List Stmt} {t u:TS} {e:Expr} {te:TE} {tt:TT}
end
section
variable {X:Cx} {K:PySem.W.Frag}
theorem mS (hK:X.K=K):IxR X (aFL K):=by subst hK; exact dG
theorem lY (hK:X.K=K):OpR X (compareOp .NotIn) (rIn K true):=by subst hK; exact uA
theorem aBV {tg l:Expr} {tl:TE} (hK:X.K=K) (hl:PE X l tl):PI X tg l (aEf K tl):=by subst hK; exact cY hl
end
theorem sM (xs:Array Value):slicePick xs none none (some (-1))=xs.toList.reverse.toArray:=by
 unfold slicePick
 have e1:sliceBounds none none (some (-1)) xs.size=((xs.size:Int) - 1,-1,-1):=by simp [sliceBounds]
 rw [e1,<- vX xs]
 congr 1
 show List.filterMap (fun x=>xs[x]?) (sliceRange ((xs.size:Int) - 1) (-1) (-1))=_
 have e2:sliceRange ((xs.size:Int) - 1) (-1) (-1)=(List.range xs.size).map fun (k:Nat)=>((xs.size:Int) - 1+(k:Int)*(-1)).toNat:=by
  unfold sliceRange
  rw [if_neg (by decide)]
  have e3:(if (xs.size:Int) - 1 > -1 then ((xs.size:Int) - 1 - -1 - -1 - 1) / (- -1) else 0).toNat=xs.size:=by
   by_cases h0:xs.size=0
   ·rw [h0]; decide
   ·rw [if_pos (by omega),show (- -1:Int)=1 from rfl,Qaj]; omega
  show (List.range (if (xs.size:Int) - 1 > -1 then ((xs.size:Int) - 1 - -1 - -1 - 1) / (- -1) else 0).toNat).map _=_
  rw [e3]
  refine Yr fun k _=>?_
  congr 1
  omega
 rw [e2,Qae]
 rfl
section
variable {X:Cx}
def aFU (K:PySem.W.Frag) (te ts:TE):TE:=fun σ H Q=>te σ H fun x H1=>ts σ H1 fun y H2=>y=.int (-1)/\∃ a xs,x=.ref a/\SqL K H2 a xs/\∀ p,H2 p=none->Q (.ref p) (upd H2 p (.lst xs.reverse))
theorem aDp {e st:Expr} {te ts:TE} {pos p2:Pos} (he:PE X e te) (hst:PE X st ts):PE X (.Subscript e (.Slice none none (some st) p2) pos) (aFU X.K te ts):=by
 intro pins s σ H Q I h
 refine Subscript_ (thn (he pins s σ H _ I h) fun v s1 hx9=>?_)
 obtain ⟨x,H1,I1,r1,q1⟩:=hx9
 refine wpAny_Slice ?_
 rw [evalPart_none]
 refine wpAny_pure ?_
 show wpAny _ _ (evalPart none X.env) _ _ s1
 rw [evalPart_none]
 refine wpAny_pure ?_
 show wpAny _ _ (evalPart (some st) X.env) _ _ s1
 rw [evalPart_some]
 refine thn (hst pins s1 σ H1 _ I1 q1) fun vst s3 hx9=>?_
 obtain ⟨y,H3,I3,r3,q3⟩:=hx9
 obtain ⟨rfl,a,xs,rfl,hx,q⟩:=q3
 obtain ⟨tk,rfl⟩:=r3
 cases r1
 have I4:Inv X pins σ H3 { s3 with heap:=s3.heap.push { cls:=.type "slice",data:=.fields #[.none,.none,.int (-1) tk] } }:=I3.kept (t':=s3.toks) fun b ob q=>Qc _ q
 obtain ⟨its,r,ht,hz⟩:=I4.list hx
 have hlen:=r.length
 have hg:wpAny (model X.prog X.w) X.A (getItem (.ref a) (.ref s3.heap.objs.size)) (EP X pins σ Q) X.xe { s3 with heap:=s3.heap.push { cls:=.type "slice",data:=.fields #[.none,.none,.int (-1) tk] } }:=by
  refine wpAny_getItem_list_slice ht.isList (Heap.IsSliceOf.new ..) .none .none (.int (-1) tk) (by decide) ?_ (by rw [Qs]; omega)
  rw [sM]
  refine ⟨.ref _,_,I4.laid (t':=s3.toks) (o:=.lst xs.reverse) (fun b ob q=>Qc _ q) (Qk _) ?_,rfl,q _ (I4.hok.fresh (Qk _))⟩
  exact ⟨by rw [Zk]; exact hz,its.reverse,0,r.reverse,Qq _ rfl⟩
 show wpAny (model X.prog X.w) X.A (subscriptTail e (.Slice none none (some st) p2) (.ref a) (.ref s3.heap.objs.size)) (EP X pins σ Q) X.xe { s3 with heap:=s3.heap.push { cls:=.type "slice",data:=.fields #[.none,.none,.int (-1) tk] } }
 exact tail_any (ops:=[.ref a,.ref s3.heap.objs.size]) ht.isList.typeIs slot_list_getitem.lookup hg (by with_unfolding_all rfl)
end
section
variable {K:PySem.W.Frag} {S:List Addr} {H H' H0:Hp} {E E':Hp->V->Prop} {σ:St} {te ta tb ts:TE} {t tr:TA} {tl th:TO}
instance {a:Addr} {xs:List V}:Mo (fun H v=>v=.ref a/\SqT K (Vw S H) a xs):=⟨fun e h=>⟨h.1,(Vw.same e).seqT h.2⟩⟩
end
section
variable {prog:Program} {w:World} {A:Around} {R:Result->Shared->Prop} {s:Shared} {elt tg iter tg2 iter2:Expr} {scope:Scope} {pos:Pos} {it acc:Value} {env:Env}
theorem sN:compTurn (.ListComp elt [⟨tg,iter,[],0⟩,⟨tg2,iter2,[],0⟩] scope pos) 0 it acc env=(standAt iter.pos >>= fun _=>pyNext it >>= fun r=>match r with
   | none=>pure (.done .next)
   | some v=>letOwnedTupleGo tg it v >>= fun _=>assign tg env v >>= fun _ =>
    (eval iter2 env >>= fun x=>standAt iter2.pos >>= fun _=>foldedSetIterable iter2 env x >>= fun x=>holding [x] (pyIter x) >>= fun i =>
     runOwn (.compStart (.ListComp elt [⟨tg,iter,[],0⟩,⟨tg2,iter2,[],0⟩] scope pos) 1 i acc env) env >>= fun _ =>
     again (.compLoop (.ListComp elt [⟨tg,iter,[],0⟩,⟨tg2,iter2,[],0⟩] scope pos) 0 it acc env))):=by rfl
theorem sO:compTurn (.ListComp elt [⟨tg,iter,[],0⟩,⟨tg2,iter2,[],0⟩] scope pos) 1 it acc env=(standAt iter2.pos >>= fun _=>pyNext it >>= fun r=>match r with
   | none=>pure (.done .next)
   | some v=>letOwnedTupleGo tg2 it v >>= fun _=>assign tg2 env v >>= fun _ =>
    (eval elt env >>= fun x=>call (.builtin "list.append") [acc,x] >>= fun _=>pure ()) >>= fun _ =>
     again (.compLoop (.ListComp elt [⟨tg,iter,[],0⟩,⟨tg2,iter2,[],0⟩] scope pos) 1 it acc env)):=by rfl
theorem kU
  (h0:codeAny (model prog w) A (.compLoop (.ListComp elt [⟨tg,iter,[],0⟩,⟨tg2,iter2,[],0⟩] scope pos) 1 it acc env) R s)
  (h:wpAny (model prog w) A (pyIter it) (fun it' s'=>codeAny (model prog w) A (.compLoop (.ListComp elt [⟨tg,iter,[],0⟩,⟨tg2,iter2,[],0⟩] scope pos) 1 it' acc env) R s')
   (notedBy (model prog w) A env fun x s'=>R (.error x) s') s) :
  codeAny (model prog w) A (.compStart (.ListComp elt [⟨tg,iter,[],0⟩,⟨tg2,iter2,[],0⟩] scope pos) 1 it acc env) R s:=by
 refine codeAny_of_tree ?_
 show wpAny _ _ ((compStart (.ListComp elt [⟨tg,iter,[],0⟩,⟨tg2,iter2,[],0⟩] scope pos) 1 it acc env).onRaise (fun x=>do noteFrame x env; standAt theWindowsPlace)) _ _ s
 refine wpAny_notedAt ?_
 unfold compStart
 show wpAny _ _ (ask >>= _) _ _ s
 refine wpAny_bind (wpAny_askSetting (wpAny_ite ?_))
 split
 ·first
   | exact wpAny_bind (wpAny_pure (wpAny_pure (And.intro rfl h0)))
   | exact wpAny_pure (And.intro rfl h0)
 ·first
   | exact wpAny_bind (wpAny_rule (wpAny_bind (wpAny_standAt (wpAny_bind (wpAny_mono h (fun it' s' h'=>wpAny_pure (And.intro rfl h')) fun _ _ x=>x)))))
   | (refine wpAny_bind (wpAny_rule ?_); show wpAny _ _ (standAt iter2.pos >>= _) _ _ s; exact wpAny_bind (wpAny_standAt (wpAny_bind (wpAny_mono h (fun it' s' h'=>wpAny_pure (And.intro rfl h')) fun _ _ x=>x))))
theorem wC (I:Nat->Shared->Prop)
  (turn:∀ n s,I n s->wpAny (model prog w) A (pyNext it) (fun r s₁=>match r with
   | none=>R (.ok .next) s₁
   | some v=>wpAny (model prog w) A (letOwnedTupleGo tg2 it v) (fun _ s₁'=>wpAny (model prog w) A (assign tg2 env v) (fun _ s₂ =>
     wpAny (model prog w) A (eval elt env) (fun x s₄ =>
       wpAny (model prog w) A (call (.builtin "list.append") [acc,x]) (fun _ s₅=>∃ m,m < n/\I m s₅) (fun _ _=>False) s₄) (fun _ _=>False) s₂) (fun _ _=>False) s₁') (fun _ _=>False) s₁) (fun _ _=>False) s)
  (n:Nat) (h:I n s) :
  codeAny (model prog w) A (.compLoop (.ListComp elt [⟨tg,iter,[],0⟩,⟨tg2,iter2,[],0⟩] scope pos) 1 it acc env) R s:=by
 refine codeAny_loop rfl I (fun n s hI=>?_) n h
 show wpAny _ A ((compTurn (.ListComp elt [⟨tg,iter,[],0⟩,⟨tg2,iter2,[],0⟩] scope pos) 1 it acc env).onRaise (fun x=>do noteFrame x env; theTreesLotGoes x)) _ _ s
 refine wpAny_noted ?_
 rw [sO]
 refine wpAny_bind (wpAny_standAt (wpAny_bind (wpAny_mono (turn n s hI) (fun r s₁ h₁=>?_) fun _ _ h'=>h'.elim)))
 cases r with
 | none=>exact wpAny_pure h₁
 | some v =>
  refine wpAny_bind (wpAny_mono h₁ (fun _ s₁' h₁'=>?_) fun _ _ h'=>h'.elim)
  refine wpAny_bind (wpAny_mono h₁' (fun _ s₂ h₂=>?_) fun _ _ h'=>h'.elim)
  exact wpAny_bind (wpAny_bind (wpAny_mono h₂ (fun x s₄ h₄=>wpAny_bind (wpAny_mono h₄ (fun _ s₅ h₅=>wpAny_pure (wpAny_pure ⟨rfl,h₅⟩)) fun _ _ h'=>h'.elim)) fun _ _ h'=>h'.elim))
theorem uE (hs2:∀ x,foldedSetIterable iter2 env x=pure x) (I:Nat->Shared->Prop)
  (turn:∀ n s,I n s->wpAny (model prog w) A (pyNext it) (fun r s₁=>match r with
   | none=>R (.ok .next) s₁
   | some v=>wpAny (model prog w) A (letOwnedTupleGo tg it v) (fun _ s₁'=>wpAny (model prog w) A (assign tg env v) (fun _ s₂ =>
     wpAny (model prog w) A (eval iter2 env) (fun x s₃=>wpAny (model prog w) A (pyIter x) (fun i s₄ =>
       codeAny (model prog w) A (.compStart (.ListComp elt [⟨tg,iter,[],0⟩,⟨tg2,iter2,[],0⟩] scope pos) 1 i acc env) (fun r s₅=>match r with
        | .ok _=>∃ m,m < n/\I m s₅
        | .error _=>False) s₄) (fun _ _=>False) s₃) (fun _ _=>False) s₂) (fun _ _=>False) s₁') (fun _ _=>False) s₁) (fun _ _=>False) s)
  (n:Nat) (h:I n s) :
  codeAny (model prog w) A (.compLoop (.ListComp elt [⟨tg,iter,[],0⟩,⟨tg2,iter2,[],0⟩] scope pos) 0 it acc env) R s:=by
 refine codeAny_loop rfl I (fun n s hI=>?_) n h
 show wpAny _ A ((compTurn (.ListComp elt [⟨tg,iter,[],0⟩,⟨tg2,iter2,[],0⟩] scope pos) 0 it acc env).onRaise (fun x=>do noteFrame x env; theTreesLotGoes x)) _ _ s
 refine wpAny_noted ?_
 rw [sN]
 refine wpAny_bind (wpAny_standAt (wpAny_bind (wpAny_mono (turn n s hI) (fun r s₁ h₁=>?_) fun _ _ h'=>h'.elim)))
 cases r with
 | none=>exact wpAny_pure h₁
 | some v =>
  refine wpAny_bind (wpAny_mono h₁ (fun _ s₁' h₁'=>?_) fun _ _ h'=>h'.elim)
  refine wpAny_bind (wpAny_mono h₁' (fun _ s₂ h₂=>?_) fun _ _ h'=>h'.elim)
  refine wpAny_bind (wpAny_mono h₂ (fun x s₃ h₃=>?_) fun _ _ h'=>h'.elim)
  refine wpAny_bind (wpAny_standAt (wpAny_bind (wpAny_of_eq (hs2 x) (wpAny_bind (wpAny_holding (wpAny_mono h₃ (fun i s₄ h₄=>?_) fun _ _ h'=>h'.elim))))))
  refine wpAny_bind (wpAny_runOwn (codeAny_mono h₄ fun r s₅ h₅=>?_))
  cases r with
  | ok f=>exact wpAny_pure ⟨rfl,h₅⟩
  | error e=>exact False.elim h₅
end
theorem yG {Y:Cx} {elt tg iter tg2 iter2:Expr} {scope:Scope} {pos:Pos} {it2 D:Addr} {fp2:List Addr} {tn2:Nat->Heap->Prop} {J2:It} {g2:TG} {te:TE} {ps:List (Addr×Obj)} {σ:St} {H:Hp} {s:Shared} {zs:List V} {its:Array Value} {o:Obj} {F:List V->St->Hp->Prop} {R:Result->Shared->Prop}
  (hx:∀ v s',¬ Y.xe v s') (hc:Y.calm=true) (T:Turn Y.prog Y.w Y.K tg2 J2 fp2 it2 tn2) (hg:PG Y tg2 g2) (he:PE Y elt te)
  (hDL:D≠Y.env.locals) (hD1:D∈Y.ex∨Y.s₀.heap.objs.size<=D) (hDc:∀ x c,Y.env.cells.lookup x=some c->c≠D) (hDp:∀ p∈Y.pn,p.1≠D) (hDfs:D∉Y.fs) (hps:∀ p∈ps,p.1≠D)
  (I0:Inv Y ((D,o)::ps) σ H s) (pl0:s.heap.PlainList D its) (v0:bA zs its.toList) (z0:zs.length<=sizeLine) (st0:tn2 0 s.heap) (f0:∀ b∈fp2,gU Y ((D,o)::ps) H b)
  (w:∃ W2:Nat->Nat->List V->St->Hp->Prop,(∃ m2,W2 0 m2 zs σ H)/\∀ j m2 zs σ3 H4,W2 j m2 zs σ3 H4->(J2.stop j H4/\F zs σ3 H4)∨(J2.go j H4/\∃ N2:List V->St->Hp->Prop,(∀ zs' σ4 H5,N2 zs' σ4 H5->∃ m3,m3 < m2/\W2 (j+1) m3 zs' σ4 H5) /\
   ∀ x H',J2.yld j H4 x H'->g2 x σ3 H' fun σ4 H5=>te σ4 H5 fun y H6=>zs.length < sizeLine/\N2 (zs++[y]) σ4 H6))
  (hR:∀ (s':Shared) (σ':St) (H':Hp) (zs':List V) (its':Array Value) (o':Obj),Inv Y ((D,o')::ps) σ' H' s'->s'.heap.PlainList D its'->bA zs' its'.toList->zs'.length<=sizeLine->F zs' σ' H'->R (.ok .next) s') :
  codeAny (model Y.prog Y.w) Y.A (.compStart (.ListComp elt [⟨tg,iter,[],0⟩,⟨tg2,iter2,[],0⟩] scope pos) 1 (.ref it2) (.ref D) Y.env) R s:=by
 obtain ⟨W2,⟨m0,w0⟩,turn⟩:=w
 have stat:∀ {H':Hp} {o':Obj},(∀ b∈fp2,H' b=none)->∀ b∈fp2,gU Y ((D,o')::ps) H' b:=fun {H' o'} hn b hb=>by
  obtain ⟨_,q1,q2,q3,q4,q5⟩:=f0 b hb
  refine ⟨hn b hb,q1,q2,q3,q4,fun p hp=>?_⟩
  rcases Jm.mp hp with h | h
  ·exact q5 p (Jf _ h)
  ·rcases Qp.mp h with h | h
   ·rw [h]; exact q5 (D,o) (Qj _ (Qg ..))
   ·exact q5 p (Qj _ (Ql _ h))
 have loop:codeAny (model Y.prog Y.w) Y.A (.compLoop (.ListComp elt [⟨tg,iter,[],0⟩,⟨tg2,iter2,[],0⟩] scope pos) 1 (.ref it2) (.ref D) Y.env) R s:=by
  refine wC (fun n s'=>∃ j σ' H' ys its o,Inv Y ((D,o)::ps) σ' H' s'/\s'.heap.PlainList D its/\bA ys its.toList/\ys.length<=sizeLine/\tn2 j s'.heap/\(∀ b∈fp2,H' b=none)/\W2 j n ys σ' H') ?_ m0
   ⟨0,σ,H,zs,its,o,I0,pl0,v0,z0,st0,fun b hb=>(f0 b hb).1,w0⟩
  rintro n s5 ⟨i,σ5,H5,ys,its,o,I5,pl5,v5,z5,st5,fr5,w5⟩
  have p5':=I5.pin (D,o) (Qj _ (Qg ..))
  rcases turn i n ys σ5 H5 w5 with ⟨stop,qn⟩ | ⟨go,N,hN,step⟩
  ·refine wpAny_mono (T.done Y rfl rfl rfl hc i _ s5 σ5 H5 (fun _ _=>False) I5 (stat fr5) st5 stop) (fun r s6 hx9=>?_) fun _ _ z=>z
   obtain ⟨hr,I6⟩:=hx9
   subst hr
   have p6:=I6.pin (D,o) (Qj _ (Qg ..))
   have pl6:s6.heap.PlainList D its:=by
    obtain ⟨k,e⟩:=pl5
    have e1:o=_:=Option.some.inj (p5'.1.symm.trans e)
    exact ⟨k,by rw [p6.1]; exact congrArg some e1⟩
   exact hR s6 σ5 H5 ys its o I6 pl6 v5 z5 qn
  ·refine wpAny_mono (T.item Y rfl rfl rfl hc i _ s5 σ5 H5 (fun _ _=>False) I5 (stat fr5) st5 go) (fun r s6 hx9=>?_) fun _ _ z=>z
   obtain ⟨u,hr,h6⟩:=hx9
   subst hr
   refine wpAny_mono h6 (fun _ s7 hx9=>?_) fun _ _ z=>z
   obtain ⟨x,H7,I7,r7,y7,st7,fr7⟩:=hx9
   have I7':=I7.pinned (stat fr7) (T.obj _ _ st7)
   refine wpAny_mono (hg _ s7 σ5 H7 x u _ I7' r7 (step x H7 y7)) (fun _ s8 hx9=>?_) fun v s' z=>hx v s' z
   obtain ⟨σ8,H8,I8,q8⟩:=hx9
   have keepT:∀ {H':Hp} {s':Shared} {σ':St},Inv Y (((D,o)::ps)++jU fp2 s7.heap) σ' H' s'->tn2 (i+1) s'.heap/\(∀ b∈fp2,H' b=none)/\s'.heap.PlainList D its/\H' D=none:=fun {H' s' σ'} I'=>by
    refine ⟨T.keep _ _ _ st7 fun b hb o e=>(I'.pin (b,o) (Qj _ (Qj _ (bY hb e)))).1,fun b hb=>?_,?_,?_⟩
    ·obtain ⟨o,e,d⟩:=T.obj _ _ st7 b hb
     exact (I'.pin (b,o) (Qj _ (Qj _ (bY hb e)))).2.1
    ·have p':=I'.pin (D,o) (Qj _ (Jf _ (Qg ..)))
     obtain ⟨k,e⟩:=pl5
     have e1:o=_:=Option.some.inj (p5'.1.symm.trans e)
     exact ⟨k,by rw [p'.1]; exact congrArg some e1⟩
    ·exact (I'.pin (D,o) (Qj _ (Jf _ (Qg ..)))).2.1
   refine wpAny_mono (he _ s8 σ8 H8 _ I8 q8) (fun y s10 hx9=>?_) fun v s' z=>hx v s' z
   obtain ⟨yv,H10,I10,r10,lt10,q10⟩:=hx9
   obtain ⟨t10,fr10,pl10,hD10⟩:=keepT I10
   have hl:=v5.length
   refine wpAny_list_append_plain pl10 (fun h11 pl11 sb11=>?_) (by rw [<- Array.length_toList,<- hl]; exact Zo lt10)
   obtain ⟨m',hm,w'⟩:=hN _ σ8 H10 q10
   have I10':Inv Y [] σ8 H10 s10:=I10.pins_of fun p hp=>by cases hp
   have I11:Inv Y [] σ8 H10 { s10 with heap:=h11 } :=
    I10'.turned (t':=s10.toks) (it:=D) (fun b o hb e=>(sb11.2 b hb).trans e) hD10 hDL hD1 hDc (fun p hp=>by rw [Xh] at hp; exact hDp p hp)
   obtain ⟨k11,e11⟩:=id pl11
   refine ⟨m',hm,i+1,σ8,H10,ys++[yv],its.push y,{ cls:=.type "list",data:=.seq (its.push y) k11 },I11.pins_of fun p hp=>?_,pl11,?_,by rw [Qr]; show ys.length+1<=_; omega,T.keep _ _ _ t10 fun b hb o e=>(sb11.2 b (fun z=>?_)).trans e,fr10,w'⟩
   ·rcases Qp.mp hp with h | h
    ·subst h
     exact ⟨e11,hD10,hDL,hDfs,fun v z=>by cases z⟩
    ·obtain ⟨a1,a2,a3,a4,a5⟩:=I10.pin p (Qj _ (Jf _ (Ql _ h)))
     exact ⟨(sb11.2 p.1 (hps p h)).trans a1,a2,a3,a4,a5⟩
   ·rw [Array.toList_push]
    exact v5.append (.cons r10 .nil)
   ·exact (f0 b hb).2.2.2.2.2 (D,_) (Qj _ (Qg ..)) z.symm
 exact kU loop (T.self Y.A 0 _ _ _ st0 loop)
def aEZ (own:Nat) (fr:List Nat) (wi:TI) (g:TG) (wi2:TI) (g2:TG) (te:TE):TE:=fun σ H Q=>wi σ H fun J H1=>∃ W:Nat->Nat->List V->St->Hp->Prop,(∃ m,W 0 m [] (blk own fr σ) H1)/\∀ i m ys σ' H,W i m ys σ' H ->
   (J.stop i H/\∀ p,H p=none->Q (.ref p) (upd H p (.lst ys))) ∨
   (J.go i H/\∃ N:List V->St->Hp->Prop,(∀ ys' σ2 H2,N ys' σ2 H2->∃ m',m' < m/\W (i+1) m' ys' σ2 H2) /\
    ∀ x H',J.yld i H x H'->g x σ' H' fun σ2 H2=>wi2 σ2 H2 fun J2 H3=>∃ W2:Nat->Nat->List V->St->Hp->Prop,(∃ m2,W2 0 m2 ys σ2 H3)/\∀ j m2 zs σ3 H4,W2 j m2 zs σ3 H4->(J2.stop j H4/\N zs σ3 H4)∨(J2.go j H4/\∃ N2:List V->St->Hp->Prop,(∀ zs' σ4 H5,N2 zs' σ4 H5->∃ m3,m3 < m2/\W2 (j+1) m3 zs' σ4 H5) /\
     ∀ x H',J2.yld j H4 x H'->g2 x σ3 H' fun σ4 H5=>te σ4 H5 fun y H6=>zs.length < sizeLine/\N2 (zs++[y]) σ4 H6))
section
variable {X:Cx} {scope:Scope} {own frn:List Str} {fr:List Nat} {elt tg iter tg2 iter2:Expr} {pos:Pos} {wi wi2:TI} {g g2:TG} {te:TE}
theorem wD {pins:List (Addr×Obj)} {σ:St} {H2:Hp} {s2:Shared} {it:Addr} {fp:List Addr} {tn:Nat->Heap->Prop} {J:It} {RR:Value->Addr->Result->Shared->Prop} {E:Value->Shared->Prop} {Q:Hp->List V->Prop}
  (S:CompOk X scope own fr frn) (hc:X.calm=true) (I2:Inv X pins σ H2 s2) (T:Turn X.prog X.w X.K tg J fp it tn) (st2:tn 0 s2.heap) (f2:∀ b∈fp,gU X pins H2 b)
  (hg:∀ C s0 H0 fp,PG (aP X scope (own++frn) C s0 H0 fp) tg g) (hi2:∀ C s0 H0 fp,PI (aP X scope (own++frn) C s0 H0 fp) tg2 iter2 wi2) (hg2:∀ C s0 H0 fp,PG (aP X scope (own++frn) C s0 H0 fp) tg2 g2) (he:∀ C s0 H0 fp,PE (aP X scope (own++frn) C s0 H0 fp) elt te) (hs2:∀ C x,foldedSetIterable iter2 (compEnvC scope (bZ X.env scope.names []) C X.env) x=pure x)
  (w:∃ W:Nat->Nat->List V->St->Hp->Prop,(∃ m,W 0 m [] (blk own.length fr σ) H2)/\∀ i m ys σ' H,W i m ys σ' H ->
   (J.stop i H/\Q H ys) ∨
   (J.go i H/\∃ N:List V->St->Hp->Prop,(∀ ys' σ2 H2,N ys' σ2 H2->∃ m',m' < m/\W (i+1) m' ys' σ2 H2) /\
    ∀ x H',J.yld i H x H'->g x σ' H' fun σ2 H2=>wi2 σ2 H2 fun J2 H3=>∃ W2:Nat->Nat->List V->St->Hp->Prop,(∃ m2,W2 0 m2 ys σ2 H3)/\∀ j m2 zs σ3 H4,W2 j m2 zs σ3 H4->(J2.stop j H4/\N zs σ3 H4)∨(J2.go j H4/\∃ N2:List V->St->Hp->Prop,(∀ zs' σ4 H5,N2 zs' σ4 H5->∃ m3,m3 < m2/\W2 (j+1) m3 zs' σ4 H5) /\
     ∀ x H',J2.yld j H4 x H'->g2 x σ3 H' fun σ4 H5=>te σ4 H5 fun y H6=>zs.length < sizeLine/\N2 (zs++[y]) σ4 H6)))
  (hRR:∀ (C D:Addr) (s':Shared) (H':Hp) (ys:List V) (its:Array Value) (m:Str->Option Value),s2.heap.objs.size<=C->s2.heap.objs.size<=D->D≠C->s'.heap.Ns C m->H' C=none->H' D=none->s'.heap.PlainList D its->bA ys its.toList->ys.length<=sizeLine ->
   Inv X pins σ H' s'->Q H' ys->RR (.ref D) C (.ok .next) s') :
  wpAny (model X.prog X.w) X.A (newList []) (fun acc s₃=>wpAny (model X.prog X.w) X.A (newFunctionEnv scope X.env.globals (bZ X.env scope.names []) [] X.env.qual none .none (some X.env)) (fun cenv s₄ =>
   codeAny (model X.prog X.w) X.A (.compStart (.ListComp elt [⟨tg,iter,[],0⟩,⟨tg2,iter2,[],0⟩] scope pos) 0 (.ref it) acc { cenv with scope:=relabel scope X.env }) (RR acc cenv.locals) s₄) E s₃) E s2:=by
 obtain ⟨p1,p2,p3,p4,p5,p6,p7⟩:=S.parts
 obtain ⟨W,⟨m0,w0⟩,turn⟩:=w
 refine wpAny_newObj_type (wpAny_newFunctionEnv p2 (by intro y hy; simp at hy) (fun h₁ hns₁ hsb₁=>?_) p1)
 dsimp only at hns₁ hsb₁ ⊢
 generalize hH2:s2.heap.push { cls:=.type "list",dict:=none,data:=.seq ([]:List Value).toArray }=HD at hns₁ hsb₁ ⊢
 have hCs:HD.objs.size=s2.heap.objs.size+1:=by rw [<- hH2,Xf]
 have hDC:s2.heap.objs.size≠HD.objs.size:=by omega
 have hCle:s2.heap.objs.size<=HD.objs.size:=by omega
 have below:∀ b,b < s2.heap.objs.size->b≠HD.objs.size/\b≠s2.heap.objs.size:=fun b hb=>⟨by omega,by omega⟩
 have old:∀ b o,s2.heap.get? b=some o->h₁.get? b=some o:=fun b o e=>hsb₁.extBut b o (below b (Qm e)).1 (Qc _ (hH2 ▸ Qc _ e))
 have hacc:h₁.get? s2.heap.objs.size=some { cls:=.type "list",data:=.seq ([]:List Value).toArray }:=hsb₁.extBut _ _ hDC (Qc _ (hH2 ▸ Qq _ rfl))
 have flt:∀ b∈fp,b < s2.heap.objs.size:=fun b hb=>by
  obtain ⟨o,e,_⟩:=T.obj _ _ st2 b hb
  exact Qm e
 generalize hDg:s2.heap.objs.size=D at *
 generalize hCg:HD.objs.size=C at *
 have st3:tn 0 h₁:=T.keep _ _ _ st2 fun b _ o e=>old b o e
 -- facts of the block
 have clsub:∀ x c,(bZ X.env scope.names []).lookup x=some c->X.env.cells.lookup x=some c:=fun x c e=>by
  rcases gO _ _ _ _ (cQ e) with q | q
  ·cases q
  ·exact q
 have cD:∀ x c,(bZ X.env scope.names []).lookup x=some c->c≠D:=fun x c e z=>by
  obtain ⟨v,q⟩:=I2.cell x c (clsub x c e)
  exact Qu _ (Qi q.lt (by rw [hDg,z]; exact Qk _))
 have loop:∀ s₃:Shared,s₃={ s2 with heap:=h₁,toks:=s2.toks+([]:List (Str×Value)).length } ->
   codeAny (model X.prog X.w) X.A (.compLoop (.ListComp elt [⟨tg,iter,[],0⟩,⟨tg2,iter2,[],0⟩] scope pos) 0 (.ref it) (.ref D) (compEnvC scope (bZ X.env scope.names []) C X.env)) (RR (.ref D) C) s₃:=by
  rintro s₃ rfl
  have I3:Inv (aP X scope (own++frn) C s2 H2 fp) [(D,_)] (blk own.length fr σ) H2 { s2 with heap:=h₁,toks:=s2.toks+([]:List (Str×Value)).length } :=
   pT (m:=fun _=>none) I2 S f2 (by rw [hDg]; exact flt) (by rw [hDg]; exact hCle) (hns₁:h₁.Ns C _) old (by rw [hDg]; exact Qk _) hDC hacc (fun v z=>by cases z)
  have stat:∀ {H':Hp} {pl:List (Addr×Obj)},(∀ p∈pl,p.1=D)->(∀ b∈fp,H' b=none)->∀ b∈fp,gU (aP X scope (own++frn) C s2 H2 fp) pl H' b:=fun {H' pl} hpl hn b hb=>by
   refine ⟨hn b hb,(below b (flt b hb)).1,fun z=>?_,.inl hb,fun x c e=>(f2 b hb).2.2.2.2.1 x c (clsub x c e),fun p hp=>?_⟩
   ·have z':b∈frs X.stack:=z
    rcases Qp.mp (I2.stkSub b z') with e | e
    ·exact (f2 b hb).2.1 e
    ·exact (f2 b hb).2.2.1 e
   ·have hp':p∈pl:=by simpa [aP] using hp
    rw [hpl p hp']
    exact Ne.symm (below b (flt b hb)).2
  refine uE (hs2 C) (env:=compEnvC scope (bZ X.env scope.names []) C X.env) (fun n s'=>∃ i σ' H' ys its o,Inv (aP X scope (own++frn) C s2 H2 fp) [(D,o)] σ' H' s'/\s'.heap.PlainList D its/\bA ys its.toList/\ys.length<=sizeLine/\tn i s'.heap/\(∀ b∈fp,H' b=none)/\W i n ys σ' H') ?_ m0
   ⟨0,_,H2,[],#[],_,I3,⟨_,hacc⟩,.nil,Jj _,st3,fun b hb=>(f2 b hb).1,w0⟩
  rintro n s5 ⟨i,σ5,H5,ys,its,o,I5,pl5,v5,z5,st5,fr5,w5⟩
  have one:∀ {o:Obj},∀ p∈[(D,o)],p.1=D:=fun p hp=>by
   have e:=Qo.mp hp
   rw [e]
  rcases turn i n ys σ5 H5 w5 with ⟨stop,qn⟩ | ⟨go,N,hN,step⟩
  ·refine wpAny_mono (T.done (aP X scope (own++frn) C s2 H2 fp) rfl rfl rfl hc i _ s5 σ5 H5 (fun _ _=>False) I5 (stat one fr5) st5 stop) (fun r s6 hx9=>?_) fun _ _ z=>z
   obtain ⟨hr,I6⟩:=hx9
   subst hr
   obtain ⟨m6,hn6,_⟩:=I6.loc
   have p6:=I6.pin (D,o) (by simp [aP])
   have p5':=I5.pin (D,o) (by simp [aP])
   have pl6:s6.heap.PlainList D its:=by
    obtain ⟨k,e⟩:=pl5
    have e1:o=_:=Option.some.inj (p5'.1.symm.trans e)
    exact ⟨k,by rw [p6.1]; exact congrArg some e1⟩
   have IX:Inv X pins σ H5 s6:=I2.call' (ch:=fp) I6.os I6.base I6.hok I6.bare fun b hb=>⟨(f2 b hb).2.2.2.1,(f2 b hb).2.1,(f2 b hb).2.2.2.2.1,(f2 b hb).2.2.2.2.2⟩
   exact hRR C D s6 H5 ys its m6 hCle (Qk _) hDC hn6 I6.free p6.2.1 pl6 v5 z5 IX qn
  ·refine wpAny_mono (T.item (aP X scope (own++frn) C s2 H2 fp) rfl rfl rfl hc i _ s5 σ5 H5 (fun _ _=>False) I5 (stat one fr5) st5 go) (fun r s6 hx9=>?_) fun _ _ z=>z
   obtain ⟨u,hr,h6⟩:=hx9
   subst hr
   refine wpAny_mono h6 (fun _ s7 hx9=>?_) fun _ _ z=>z
   obtain ⟨x,H7,I7,r7,y7,st7,fr7⟩:=hx9
   have I7':=I7.pinned (stat one fr7) (T.obj _ _ st7)
   refine wpAny_mono (hg C s2 H2 fp _ s7 σ5 H7 x u _ I7' r7 (step x H7 y7)) (fun _ s8 hx9=>?_) fun _ _ z=>z
   obtain ⟨σ8,H8,I8,q8⟩:=hx9
   refine wpAny_mono (hi2 C s2 H2 fp _ s8 σ8 H8 _ I8 q8) (fun v2 s9 h9=>wpAny_mono h9 (fun itv s10 h10=>?_) fun _ _ z=>z) fun _ _ z=>z
   obtain ⟨it2,fp2,tn2,J2,H10,e10,I10,T2,st10,f10,w10⟩:=h10
   subst e10
   have DfsX:D∉frs X.stack:=fun z=>by
    rcases Qp.mp (I2.stkSub D z) with e | e
    ·exact Qu _ (Qi I2.lt (by rw [hDg,e]; exact Qk _))
    ·exact I2.nofs (by rw [hDg]; exact Qk _) e
   have p5':=I5.pin (D,o) (by simp [aP])
   have pl10:s10.heap.PlainList D its:=by
    have p':=I10.pin (D,o) (by simp [aP])
    obtain ⟨k,e⟩:=pl5
    have e1:o=_:=Option.some.inj (p5'.1.symm.trans e)
    exact ⟨k,by rw [p'.1]; exact congrArg some e1⟩
   refine yG (Y:=aP X scope (own++frn) C s2 H2 fp) (ps:=jU fp s7.heap) (F:=N) (fun _ _ z=>z) hc T2 (hg2 C s2 H2 fp) (he C s2 H2 fp) hDC (.inr (by show s2.heap.objs.size<=D; rw [hDg]; exact Qk _)) cD (fun p hp=>by simp [aP] at hp) DfsX
    (fun p hp=>(below p.1 (flt p.1 (nK hp).1)).2) I10 pl10 v5 z5 st10 f10 w10 (fun s' σ' H' zs' its' o' I' pl' v' z' q'=>?_)
   obtain ⟨m',hm,w'⟩:=hN zs' σ' H' q'
   refine ⟨m',hm,i+1,σ',H',zs',its',o',I'.pins_of fun p hp=>?_,pl',v',z',T.keep _ _ _ st7 fun b hb o e=>(I'.pin (b,o) (Qj _ (Ql _ (bY hb e)))).1,fun b hb=>?_,w'⟩
   ·have e:=Qo.mp hp
    subst e
    exact I'.pin _ (Qj _ (Qg ..))
   ·obtain ⟨o,e,d⟩:=T.obj _ _ st7 b hb
    exact (I'.pin (b,o) (Qj _ (Ql _ (bY hb e)))).2.1
 exact codeAny_compStart_list (loop _ rfl) (T.self X.A 0 _ _ _ st3 (loop _ rfl))
theorem aBW (S:CompOk X scope own fr frn) (hc:X.calm=true) (hi:PI X tg iter wi) (hg:∀ C s0 H0 fp,PG (aP X scope (own++frn) C s0 H0 fp) tg g) (hi2:∀ C s0 H0 fp,PI (aP X scope (own++frn) C s0 H0 fp) tg2 iter2 wi2) (hg2:∀ C s0 H0 fp,PG (aP X scope (own++frn) C s0 H0 fp) tg2 g2)
  (he:∀ C s0 H0 fp,PE (aP X scope (own++frn) C s0 H0 fp) elt te) (hs:∀ x,foldedSetIterable iter X.env x=pure x:=by intro _; rfl) (hs2:∀ C x,foldedSetIterable iter2 (compEnvC scope (bZ X.env scope.names []) C X.env) x=pure x:=by intro _ _; rfl) :
  PE X (.ListComp elt [⟨tg,iter,[],0⟩,⟨tg2,iter2,[],0⟩] scope pos) (aEZ own.length fr wi g wi2 g2 te):=by
 intro pins s σ H Q I h
 obtain ⟨p1,p2,p3,p4,p5,p6,p7⟩:=S.parts
 rw [eval_ListComp]
 refine wpAny_comprehension_free (use:=none) rfl hs (S.clo I) p1 p3 (thn (hi pins s σ H _ I h) fun v s1 h1=>thn h1 fun itv s2 h2=>?_)
 obtain ⟨it,fp,tn,J,H2,e,I2,T,st2,f2,hw⟩:=h2
 subst e
 refine wD (RR:=fun acc C=>compPost (model X.prog X.w) X.A X.xe none (EP X pins σ Q) acc C) (Q:=fun H ys=>∀ p,H p=none->Q (.ref p) (upd H p (.lst ys))) S hc I2 T st2 f2 hg hi2 hg2 he hs2 hw ?_
 intro C D s' H' ys its m hC hD hDC hns hHC hHD pl v z IX q
 have cne:∀ a,s2.heap.objs.size<=a->∀ x c,X.env.cells.lookup x=some c->c≠a:=fun a ha x c e z=>by
  obtain ⟨v,w⟩:=I2.cell x c e
  exact Qu _ (Qi w.lt (by rw [z]; exact ha))
 have pne:∀ a,s2.heap.objs.size<=a->∀ p∈X.pn++pins,p.1≠a:=fun a ha p hp z=>Qu _ (Qi (Qm (I2.pin p hp).1) (by rw [z]; exact ha))
 have lne:∀ a,s2.heap.objs.size<=a->a≠X.env.locals:=fun a ha z=>Qu _ (Qi I2.lt (by rw [<- z]; exact ha))
 refine ⟨m,hns,fun h' hs'=>⟨.ref D,upd H' D (.lst ys),?_,rfl,q D hHD⟩⟩
 have IT:Inv X pins σ (upd H' D (.lst ys)) s':=IX.track pl v z hHD (lne D hD) (Qv I2.sz hD) (cne D hD) (pne D hD)
 exact IT.turned (t':=s'.toks) (it:=C) (fun b o hb e=>(hs'.2 b hb).trans e) (by rw [aG (Ne.symm hDC)]; exact hHC) (lne C hC) (.inr (Qv I2.sz hC)) (cne C hC) (pne C hC)
end
section
variable {own:Nat} {fr:List Nat} {g g2:TG} {wi2:TI} {te:TE} {σ:St} {H:Hp} {Qf:Hp->List V->Prop} {K:PySem.W.Frag}
def aDq (g2:TG) (te:TE) (SH:St->Prop) (vs:List V) (σ2:St) (J2:It) (H4:Hp):Prop:=∃ SH2:St->Prop,SH2 σ2/\(∀ σ3,SH2 σ3->SH σ3)/\(∀ H',aE H4 H'->J2.stop vs.length H')/\(∀ j H',j < vs.length->aE H4 H'->J2.go j H') /\
 ∀ j v y σ3 H5 H6,vs[j]?=some v->SH2 σ3->aE H4 H5->J2.yld j H5 y H6->∀ Q:V->St->Hp->Prop,(∀ σ4 H7,SH2 σ4->aE H5 H7->Q v σ4 H7)->g2 y σ3 H6 fun σ4 H7=>te σ4 H7 fun z H8=>Q z σ4 H8
theorem tM {vss:List (List V)} {i:Nat} {vs:List V} (h:vss[i]?=some vs):(vss.take (i+1)).flatten=(vss.take i).flatten++vs:=by
 rw [Yh,h,Qac]; simp
theorem aBX {vss:List (List V)} {i:Nat} {vs:List V} (h:vss[i]?=some vs):(vss.take i).flatten.length+vs.length<=vss.flatten.length:=by
 have e:=congrArg List.flatten (List.take_append_drop (i+1) vss)
 rw [Qac,tM h] at e
 rw [<- e,Qr,Qr]
 omega
theorem aBY {J:It} {n:Nat} {vss:List (List V)} (SH:St->Prop) (hn:vss.flatten.length<=1000) (hl:vss.length=n) (hσ:SH (blk own fr σ)) (hstop:∀ H',aE H H'->J.stop n H') (hgo:∀ i H',i < n->aE H H'->J.go i H')
  (hs:∀ i vs x σ H1 H2,i < n->vss[i]?=some vs->SH σ->aE H H1->J.yld i H1 x H2->∀ P:St->It->Hp->Prop,(∀ σ2 J2 H4,aE H1 H4->aDq g2 te SH vs σ2 J2 H4->P σ2 J2 H4)->g x σ H2 fun σ2 H3=>wi2 σ2 H3 fun J2 H4=>P σ2 J2 H4)
  (hd:∀ H',aE H H'->Qf H' vss.flatten) :
  ∃ W:Nat->Nat->List V->St->Hp->Prop,(∃ m,W 0 m [] (blk own fr σ) H)/\∀ i m ys σ' H,W i m ys σ' H ->
   (J.stop i H/\Qf H ys) ∨
   (J.go i H/\∃ N:List V->St->Hp->Prop,(∀ ys' σ2 H2,N ys' σ2 H2->∃ m',m' < m/\W (i+1) m' ys' σ2 H2) /\
    ∀ x H',J.yld i H x H'->g x σ' H' fun σ2 H2=>wi2 σ2 H2 fun J2 H3=>∃ W2:Nat->Nat->List V->St->Hp->Prop,(∃ m2,W2 0 m2 ys σ2 H3)/\∀ j m2 zs σ3 H4,W2 j m2 zs σ3 H4->(J2.stop j H4/\N zs σ3 H4)∨(J2.go j H4/\∃ N2:List V->St->Hp->Prop,(∀ zs' σ4 H5,N2 zs' σ4 H5->∃ m3,m3 < m2/\W2 (j+1) m3 zs' σ4 H5) /\
     ∀ x H',J2.yld j H4 x H'->g2 x σ3 H' fun σ4 H5=>te σ4 H5 fun y H6=>zs.length < sizeLine/\N2 (zs++[y]) σ4 H6)):=by
 refine ⟨fun i m ys σ' H'=>i<=n/\m=n - i/\ys=(vss.take i).flatten/\SH σ'/\aE H H',⟨n,Jj _,rfl,rfl,hσ,aE.refl H⟩,?_⟩
 rintro i m ys σ' H1 ⟨hi,rfl,rfl,sh,s1⟩
 by_cases e:i=n
 ·subst e
  refine .inl ⟨hstop H1 s1,?_⟩
  rw [Xg (by omega)]
  exact hd H1 s1
 have hlt:i < n:=by omega
 refine .inr ⟨hgo i H1 hlt s1,fun ys' σ2 H2=>ys'=(vss.take (i+1)).flatten/\SH σ2/\aE H H2,fun ys' σ2 H2 ⟨e1,e2,e3⟩=>⟨n - (i+1),by omega,by omega,rfl,e1,e2,e3⟩,fun x H2 hy=>?_⟩
 have hv:vss[i]?=some vss[i]:=Qb (by omega)
 have hfl:=aBX hv
 refine hs i vss[i] x σ' H1 H2 hlt hv sh s1 hy _ fun σ2 J2 H4 s4 hx9=>?_
 obtain ⟨SH2,sh2,hb,st2,go2,step2⟩:=hx9
 refine ⟨fun j m2 zs σ3 H5=>j<=(vss[i]).length/\m2=(vss[i]).length - j/\zs=(vss.take i).flatten++(vss[i]).take j/\SH2 σ3/\aE H4 H5,⟨_,Jj _,rfl,by rw [Yx,Xh],sh2,aE.refl _⟩,?_⟩
 rintro j m2 zs σ3 H5 ⟨hj,rfl,rfl,sh3,s5⟩
 by_cases e2:j=(vss[i]).length
 ·refine .inl ⟨e2 ▸ st2 H5 s5,?_,hb _ sh3,(s1.trans s4).trans s5⟩
  rw [tM hv,show (vss[i]).take j=vss[i] from Xg (by omega)]
 ·have hjl:j < (vss[i]).length:=by omega
  refine .inr ⟨go2 j H5 hjl s5,fun zs' σ4 H6=>zs'=(vss.take i).flatten++(vss[i]).take (j+1)/\SH2 σ4/\aE H4 H6,fun zs' σ4 H6 ⟨q1,q2,q3⟩=>⟨(vss[i]).length - (j+1),by omega,by omega,rfl,q1,q2,q3⟩,fun y H6 hy2=>?_⟩
  have hvj:(vss[i])[j]?=some (vss[i])[j]:=Qb hjl
  refine step2 j _ y σ3 H5 H6 hvj sh3 s5 hy2 _ fun σ4 H7 sh4 s7=>⟨aBU (n:=((vss.take i).flatten++(vss[i]).take j).length+1) (by rw [Qr,Jk]; omega),?_,sh4,s5.trans s7⟩
  rw [Yh,hvj,<- Wg]
  rfl
end
section
variable {X:Cx}
theorem aAQ (bs:List Bool) (tr:Nat->Bool) (h:∀ i b,bs[i]?=some b->tr i=b):(List.range bs.length).any tr=bs.any id:=by
 rw [Xm,Jz,Jz]
 constructor
 ·rintro ⟨i,hi,q⟩
  have hi':=Jt.mp hi
  rw [h i _ (Qb hi')] at q
  exact ⟨_,Zx hi',q⟩
 ·rintro ⟨b,hb,q⟩
  obtain ⟨i,hi⟩:=Wz hb
  exact ⟨i,Jt.mpr (Qd.mp hi).1,by rw [h i b hi]; exact q⟩
theorem wE (hc:X.calm=true):fY X (.builtin "any") (fun xs H Q=>∃ (p:Addr) (bs:List Bool),xs = [.ref p]/\SqL X.K H p (bs.map V.bl)/\Q (.bl (bs.any id)) H):=by
 intro pins s σ H xs us Q I r h
 obtain ⟨p,bs,rfl,hx,q⟩:=h
 obtain ⟨u,rfl,rx⟩:=jJ r
 cases rx
 obtain ⟨its,rv,pl,hz⟩:=I.list hx
 have hl:=rv.length
 rw [Qa] at hl
 have hlt:p < s.heap.objs.size:=by obtain ⟨o,n,e,_⟩:=pl; exact Qm e
 refine call_any_walk (wpAny_pyIter_list pl.isList ?_)
 refine ⟨s.heap.objs.size,_,_,_,_,_,fun i=>(bs[i]?).getD false,rfl,Walks.list (A:=X.A.in1) (I.ok.hd hc) s.heap.objs.size p (Jq hlt) its.toArray,⟨⟨_,Qq _ rfl,rfl,rfl⟩,pl.isList.push _⟩,?_,fun h' tk hk=>?_⟩
 ·intro i v s' Q' E' hP hQ'
  have hP':its[i]?=some v:=by simpa using hP
  have hi:i < bs.length:=by rw [hl]; exact (Qd.mp hP').1
  obtain ⟨w,hw,rw'⟩:=rv.get (i:=i) (x:=.bl bs[i]) (by rw [Qe,Qb hi]; rfl)
  rw [hw] at hP'
  cases hP'
  cases rw'
  have e:(bs[i]?).getD false=bs[i]:=by rw [Qb hi]; rfl
  rw [<- e]
  exact wpAny_truthy_bool hQ'
 ·have e:(List.range its.toArray.size).any (fun i=>(bs[i]?).getD false)=bs.any id:=by
   rw [Qs,<- hl]
   exact aAQ bs _ fun i b hb=>by rw [hb]; rfl
  rw [e]
  refine ⟨.bl _,H,I.kept (h':=h') fun b o e=>hk b o ?_ (Qc _ e),rfl,q⟩
  intro z
  have z':b=s.heap.objs.size:=by simpa using z
  exact Qu _ (z' ▸ Qm e)
end
section
variable {κ:Type} [DecidableEq κ]
def bK (kvs:List (κ×V)) (k:κ):Option V:=(kvs.find? fun kv=>decide (kv.1=k)).map (·.2)
def dZ (kvs:List (κ×V)) (k:κ) (v:V):List (κ×V) :=
 if (kvs.any fun kv=>decide (kv.1=k))=true then kvs.map (fun kv=>if kv.1=k then (kv.1,v) else kv) else kvs++[(k,v)]
def aEj (kvs:List (κ×V)) (k:κ):List (κ×V):=kvs.filter fun kv=>decide (kv.1≠k)
theorem aBZ {k:κ}:bK ([]:List (κ×V)) k=none:=rfl
theorem eA {p:κ×V} {r:List (κ×V)} {k:κ} (e:p.1=k):bK (p::r) k=some p.2:=by simp [bK,Zq,e]
theorem eS {p:κ×V} {r:List (κ×V)} {k:κ} (e:¬ p.1=k):bK (p::r) k=bK r k:=by simp [bK,Zq,e]
theorem dM (k:κ):∀ kvs:List (κ×V),(kvs.any fun kv=>decide (kv.1=k))=(bK kvs k).isSome
 | []=>rfl
 | p::r=>by
  rw [Yc]
  by_cases e:p.1=k
  ·simp only [eA e,decide_eq_true e,Wv,Qaf]
  ·rw [eS e,decide_eq_false e,Yn]; exact dM k r
theorem wF (k j:κ) (y:V):∀ kvs:List (κ×V),bK (kvs.map fun kv=>if kv.1=k then (kv.1,y) else kv) j=(bK kvs j).map fun x=>if j=k then y else x
 | []=>rfl
 | p::r=>by
  have ih:=wF k j y r
  rw [Jg]
  by_cases h:p.1=k
  ·rw [if_pos h]
   by_cases e:p.1=j
   ·rw [eA (p:=(p.1,y)) e,eA e,Xn,if_pos (e.symm.trans h)]
   ·rw [eS (p:=(p.1,y)) e,eS e,ih]
  ·rw [if_neg h]
   by_cases e:p.1=j
   ·rw [eA (p:=p) e,eA e,Xn,if_neg (fun z=>h (e.trans z))]
   ·rw [eS (p:=p) e,eS e,ih]
theorem nR (k j:κ) (y:V):∀ kvs:List (κ×V),bK kvs k=none->bK (kvs++[(k,y)]) j=if j=k then some y else bK kvs j
 | [],_=>by
  by_cases e:k=j
  ·rw [if_pos e.symm]; exact eA (p:=(k,y)) e
  ·rw [if_neg (fun z=>e z.symm)]; exact eS (p:=(k,y)) e
 | p::r,hn=>by
  rw [Wp]
  have hk:¬ p.1=k:=fun z=>by rw [eA z] at hn; cases hn
  rw [eS hk] at hn
  have ih:=nR k j y r hn
  by_cases e:p.1=j
  ·rw [eA e,eA e,if_neg (fun z=>hk (e.trans z))]
  ·rw [eS e,eS e,ih]
theorem iC (kvs:List (κ×V)) (k j:κ) (y:V):bK (dZ kvs k y) j=if j=k then some y else bK kvs j:=by
 unfold dZ
 by_cases a:(kvs.any fun kv=>decide (kv.1=k))=true
 ·rw [if_pos a,wF]
  rw [dM] at a
  by_cases e:j=k
  ·obtain ⟨x,hx⟩:=Wc.mp a
   rw [if_pos e,e,hx,Xn,if_pos rfl]
  ·rw [if_neg e]
   cases bK kvs j with
   | none=>rfl
   | some x=>rw [Xn,if_neg e]
 ·rw [if_neg a]
  refine nR k j y kvs ?_
  rw [dM] at a
  cases q:bK kvs k with
  | none=>rfl
  | some x=>rw [q] at a; exact (a rfl).elim
theorem jM (kvs:List (κ×V)) (k:κ) (v:V):(dZ kvs k v).length<=kvs.length+1:=by
 unfold dZ
 split
 ·rw [Qa]; omega
 ·rw [Qr,Jl,List.length_nil]; omega
theorem qB {kvs:List (κ×V)} {k:κ} (v:V) (h:bK kvs k=none):dZ kvs k v=kvs++[(k,v)]:=by
 unfold dZ
 rw [dM,h]
 exact if_neg (by decide)
theorem oS.isSome_eq {o:Option V} {u:Option Value} (r:oS o u):o.isSome=u.isSome:=by
 cases o with
 | none => cases u with
   | none=>rfl
   | some _=>exact (show False from r).elim
 | some _ => cases u with
   | none=>exact (show False from r).elim
   | some _=>rfl
theorem oS.getD {o:Option V} {u:Option Value} {d:V} {d':Value} (r:oS o u) (rd:bD d d'):bD (o.getD d) (u.getD d'):=by
 cases o with
 | none => cases u with
   | none=>exact rd
   | some _=>exact (show False from r).elim
 | some _ => cases u with
   | none=>exact (show False from r).elim
   | some _=>exact r
theorem KV.val {kvs:List (κ×V)} {vs:List (κ×Value)} (r:KV kvs vs) (k:κ):oS (bK kvs k) (valueAt vs k):=by
 unfold KV at r
 induction r with
 | nil=>exact True.intro
 | @cons p q ps qs h t ih =>
  obtain ⟨h1,h2⟩:=h
  by_cases e:p.1=k
  ·have e':q.1=k:=h1.symm.trans e
   have b:valueAt (q::qs) k=some q.2:=by simp [valueAt,Zq,e']
   rw [eA e,b]; exact h2
  ·have e':¬ q.1=k:=fun z=>e (h1.trans z)
   have b:valueAt (q::qs) k=valueAt qs k:=by simp [valueAt,Zq,e']
   rw [eS e,b]; exact ih
theorem KV.any {kvs:List (κ×V)} {vs:List (κ×Value)} (r:KV kvs vs) (k:κ):(kvs.any fun kv=>decide (kv.1=k))=vs.any fun kv=>decide (kv.1=k):=by
 unfold KV at r
 induction r with
 | nil=>rfl
 | cons h t ih=>rw [Yc,Yc,ih,h.1]
theorem KV.repl {kvs:List (κ×V)} {vs:List (κ×Value)} (r:KV kvs vs) (k:κ) {y:V} {u:Value} (ry:bD y u) :
  KV (kvs.map fun kv=>if kv.1=k then (kv.1,y) else kv) (vs.map fun kv=>if kv.1=k then (kv.1,u) else kv):=by
 unfold KV at r ⊢
 induction r with
 | nil=>exact .nil
 | @cons p q ps qs h t ih =>
  rw [Jg,Jg]
  refine .cons ?_ ih
  obtain ⟨h1,h2⟩:=h
  by_cases e:p.1=k
  ·rw [if_pos e,if_pos (h1.symm.trans e)]; exact ⟨h1,ry⟩
  ·rw [if_neg e,if_neg (fun z=>e (h1.trans z))]; exact ⟨h1,h2⟩
theorem KV.put {kvs:List (κ×V)} {vs:List (κ×Value)} (r:KV kvs vs) (k:κ) {y:V} {u:Value} (ry:bD y u):KV (dZ kvs k y) (stored vs k u):=by
 unfold dZ stored
 rw [r.any k]
 by_cases e:(vs.any fun kv=>decide (kv.1=k))=true
 ·rw [if_pos e,if_pos e]; exact r.repl k ry
 ·rw [if_neg e,if_neg e]; exact Paired.snoc r ⟨rfl,ry⟩
theorem KV.drop {kvs:List (κ×V)} {vs:List (κ×Value)} (r:KV kvs vs) (k:κ):KV (aEj kvs k) (without vs k):=by
 unfold KV at r ⊢
 unfold aEj without
 induction r with
 | nil=>exact .nil
 | @cons p q ps qs h t ih =>
  obtain ⟨h1,h2⟩:=h
  rw [Qx,Qx]
  by_cases e:p.1=k
  ·have a:¬ decide (p.1≠k)=true:=by simp [e]
   have b:¬ decide (q.1≠k)=true:=by simp [h1.symm.trans e]
   rw [if_neg a,if_neg b]; exact ih
  ·have e':¬ q.1=k:=fun z=>e (h1.trans z)
   have a:decide (p.1≠k)=true:=by simp [e]
   have b:decide (q.1≠k)=true:=by simp [e']
   rw [if_pos a,if_pos b]; exact .cons ⟨h1,h2⟩ ih
theorem KV.keys {kvs:List (κ×V)} {vs:List (κ×Value)} (r:KV kvs vs):kvs.map (·.1)=vs.map (·.1):=by
 unfold KV at r
 induction r with
 | nil=>rfl
 | cons h t ih=>rw [Jg,Jg,ih,h.1]
theorem KV.length {kvs:List (κ×V)} {vs:List (κ×Value)} (r:KV kvs vs):kvs.length=vs.length:=Paired.length r
end
theorem qC {P:Program} {w:World} {k:Key} {u:Value} (r:bD (kV k) u):(bC P w).is k u=true:=by
 cases k with
 | inl i=>obtain ⟨t,e⟩:=(show ∃ t,u=Value.int i t from r); subst e; exact vJ P w i t
 | inr x=>obtain ⟨t,e⟩:=(show ∃ t,u=Value.str x t from r); subst e; exact vK P w x t
theorem tN {P:Program} {w:World}:∀ {ks:List Key} {us:List Value},bA (ks.map kV) us->ItemsAre (bC P w) ks us
 | [],_,r=>by rw [Qah] at r; cases r; exact .nil
 | k::ks,_,r=>by
  rw [Jg] at r
  cases r with
  | cons h t=>exact .cons (qC h) (tN t)
abbrev KT (H:Hp):List (List Key×V)->List (List Key×Addr×Value)->Prop:=Paired fun p q=>p.1=q.1/\H q.2.1=some (.tup (p.1.map kV))/\bD p.2 q.2.2
theorem KT.val {H:Hp} {kvs:List (List Key×V)} {xs:List (List Key×Addr×Value)} (r:KT H kvs xs) (k:List Key):oS (bK kvs k) ((atKey xs k).map (·.2)):=by
 induction r with
 | nil=>exact True.intro
 | @cons p q ps qs h t ih =>
  obtain ⟨h1,_,h2⟩:=h
  by_cases e:p.1=k
  ·have e':q.1=k:=h1.symm.trans e
   have b:atKey (q::qs) k=some q.2:=by simp [atKey,Zq,e']
   rw [eA e,b]; exact h2
  ·have e':¬ q.1=k:=fun z=>e (h1.trans z)
   have b:atKey (q::qs) k=atKey qs k:=by simp [atKey,Zq,e']
   rw [eS e,b]; exact ih
theorem KT.repl {H:Hp} {kvs:List (List Key×V)} {xs:List (List Key×Addr×Value)} (r:KT H kvs xs) (k:List Key) {y:V} {u:Value} (ry:bD y u) :
  KT H (kvs.map fun kv=>if kv.1=k then (kv.1,y) else kv) (xs.map (putAt k u)):=by
 induction r with
 | nil=>exact .nil
 | @cons p q ps qs h t ih =>
  rw [Jg,Jg]
  refine .cons ?_ ih
  obtain ⟨h1,h2,h3⟩:=h
  unfold putAt
  by_cases e:p.1=k
  ·rw [if_pos e,if_pos (h1.symm.trans e)]; exact ⟨h1,h2,ry⟩
  ·rw [if_neg e,if_neg (fun z=>e (h1.trans z))]; exact ⟨h1,h2,h3⟩
theorem KT.put {H:Hp} {kvs:List (List Key×V)} {xs:List (List Key×Addr×Value)} (r:KT H kvs xs) (k:List Key) {b:Addr} {y:V} {u:Value} (hb:H b=some (.tup (k.map kV))) (ry:bD y u) :
  KT H (dZ kvs k y) (storedH xs k b u):=by
 have e:(kvs.any fun kv=>decide (kv.1=k))=(atKey xs k).isSome:=by
  rw [dM,(r.val k).isSome_eq,Wh]
 unfold dZ storedH
 rw [e]
 by_cases q:(atKey xs k).isSome=true
 ·rw [if_pos q,if_pos q]; exact r.repl k ry
 ·rw [if_neg q,if_neg q]; exact Paired.snoc r ⟨rfl,hb,ry⟩
theorem KT.keeps {H H':Hp} {kvs:List (List Key×V)} {xs:List (List Key×Addr×Value)} (r:KT H kvs xs) (ht:∀ b ys,H b=some (.tup ys)->H' b=some (.tup ys)):KT H' kvs xs :=
 Paired.mapP r fun _ _ z=>⟨z.1,ht _ _ z.2.1,z.2.2⟩
section
variable {P:Program} {w:World} {H:Hp} {h:Heap} {a:Addr}
theorem aEk {u:HO} (ok:HOk P w H h) (e:Rd H a u):bW P w H h a u:=e.ok ok
theorem wG {kvs:List (Key×V)} (ok:HOk P w H h) (e:Rd H a (.dK kvs)):kvs.length<=sizeLine/\(a==sysModules)=false/\∃ vs,KV kvs vs/\h.DictOf (bC P w) a vs :=
 show bW P w H h a (.dK kvs) from aEk ok e
theorem aFV {kvs:List (Key×V)} (ok:HOk P w H h) (e:H a=some (.dK kvs)):kvs.length<=sizeLine/\(a==sysModules)=false/\∃ vs,KV kvs vs/\h.DictOf (bC P w) a vs:=wG ok (.inl e)
theorem uF {ks:List Key} (ok:HOk P w H h) (e:H a=some (.tup (ks.map kV))):(tupleKind (bC P w)).is h ks a:=by
 obtain ⟨_,its,n,r,e1⟩:=(show bW P w H h a (.tup (ks.map kV)) from ok a _ e)
 exact ⟨_,its.toArray,n,e1,rfl,rfl,by simpa using tN r⟩
theorem zV {kvs:List (List Key×V)} (ok:HOk P w H h) (e:Rd H a (.dT kvs)):kvs.length<=sizeLine/\(a==sysModules)=false /\
  ∃ xs,KT H kvs xs/\h.DictOfH (tupleKind (bC P w)) a xs:=by
 obtain ⟨z,y,xs,r,o,es,ep,h1,h2,h3,h4,h5⟩:=(show bW P w H h a (.dT kvs) from aEk ok e)
 refine ⟨z,y,xs,r,o,es,ep,h1,h2,h3,h4,fun x hx=>?_,h5⟩
 have all:∀ {l:List (List Key×V)} {m:List (List Key×Addr×Value)},KT H l m->∀ x∈m,(tupleKind (bC P w)).is h x.1 x.2.1:=by
  intro l m q
  induction q with
  | nil=>intro x hx; exact nomatch hx
  | @cons p q ps qs hq t ih =>
   intro x hx
   rcases Qp.mp hx with e | hx
   ·subst e
    exact uF ok (by rw [<- hq.1]; exact hq.2.1)
   ·exact ih x hx
 exact all r x hx
theorem aFW {kvs:List (List Key×V)} (ok:HOk P w H h) (e:H a=some (.dT kvs)):kvs.length<=sizeLine/\(a==sysModules)=false /\
  ∃ xs,KT H kvs xs/\h.DictOfH (tupleKind (bC P w)) a xs:=zV ok (.inl e)
end
def qD (H:Hp) (a:Addr) (y:V) (r:Option V):Prop :=
 (∃ kvs k,Rd H a (.dK kvs)/\y=kV k/\r=bK kvs k)∨∃ kvs k b,Rd H a (.dT kvs)/\y=.ref b/\H b=some (.tup (k.map kV))/\r=bK kvs k
def oU (H:Hp) (a:Addr) (y v:V) (H':Hp):Prop :=
 (∃ kvs k,H a=some (.dK kvs)/\y=kV k/\kvs.length < sizeLine/\H'=upd H a (.dK (dZ kvs k v))) ∨
 ∃ kvs k b,H a=some (.dT kvs)/\y=.ref b/\H b=some (.tup (k.map kV))/\kvs.length < sizeLine/\H'=upd H a (.dT (dZ kvs k v))
theorem qD.k {H:Hp} {a:Addr} {kvs:List (Key×V)} {k:Key} (e:H a=some (.dK kvs)):qD H a (kV k) (bK kvs k):=.inl ⟨kvs,k,.inl e,rfl,rfl⟩
theorem qD.t {H:Hp} {a b:Addr} {kvs:List (List Key×V)} {k:List Key} (e:H a=some (.dT kvs)) (eb:H b=some (.tup (k.map kV))):qD H a (.ref b) (bK kvs k):=.inr ⟨kvs,k,b,.inl e,rfl,eb,rfl⟩
theorem oU.k {H:Hp} {a:Addr} {kvs:List (Key×V)} {k:Key} {v:V} (e:H a=some (.dK kvs)) (hl:kvs.length < sizeLine):oU H a (kV k) v (upd H a (.dK (dZ kvs k v))):=.inl ⟨kvs,k,e,rfl,hl,rfl⟩
theorem oU.t {H:Hp} {a b:Addr} {kvs:List (List Key×V)} {k:List Key} {v:V} (e:H a=some (.dT kvs)) (eb:H b=some (.tup (k.map kV))) (hl:kvs.length < sizeLine) :
  oU H a (.ref b) v (upd H a (.dT (dZ kvs k v))):=.inr ⟨kvs,k,b,e,rfl,eb,hl,rfl⟩
section
variable {X:Cx} {pins:List (Addr×Obj)} {σ:St} {H:Hp} {s:Shared} {a:Addr} {y v:V} {u r:Value} {o:Option V} {A:Around} {E:Value->Shared->Prop}
theorem Inv.big (I:Inv X pins σ H s):sysModules < s.heap.objs.size:=by
 have h:mainGlobals < s.heap.objs.size:=(I.mod.glob.keeps I.bk).lt
 exact Nat.lt_trans (by decide) h
theorem tO {Q:Value->Shared->Prop} (hu:A.units+1 < cLine) (I:Inv X pins σ H s) (g:qD H a y (some v)) (ry:bD y u) (h:∀ w' s',Inv X pins σ H s'->bD v w'->Q w' s') :
  wpAny (model X.prog X.w) A (getItem (.ref a) u) Q E s:=by
 rcases g with ⟨kvs,k,e,ey,l⟩ | ⟨kvs,k,b,e,ey,eb,l⟩
 ·subst ey
  obtain ⟨z,hd,vs,rel,dd⟩:=wG I.hok e
  obtain ⟨w',hw,rw'⟩:=oS.some_of (v:=v) (o:=valueAt vs k) (by rw [l]; exact rel.val k)
  exact wpAny_getItem_of (qC ry) dd.mapOf hw (h w' _ (I.tok _) rw')
 ·subst ey
  cases (show u=Value.ref b from ry)
  obtain ⟨z,hd,xs,rel,dd⟩:=zV I.hok e
  obtain ⟨w',hw,rw'⟩:=oS.some_of (v:=v) (o:=(atKey xs k).map (·.2)) (by rw [l]; exact rel.val k)
  obtain ⟨p,hp,hp2⟩:=Qz.mp hw
  refine wpAny_getItem_heap (tupleKind_room_in1 hu) (uF I.hok eb) dd hp ?_
  rw [hp2]
  exact h w' _ (I.tok _) rw'
theorem aDr {Q:Value->Shared->Prop} (hu:A.units+1 < cLine) (I:Inv X pins σ H s) (g:qD H a y o) (ry:bD y u) (h:∀ s',Inv X pins σ H s'->Q (.bool (!o.isSome)) s') :
  wpAny (model X.prog X.w) A (compareOp .NotIn u (.ref a)) Q E s:=by
 rcases g with ⟨kvs,k,e,ey,l⟩ | ⟨kvs,k,b,e,ey,eb,l⟩
 ·subst ey
  obtain ⟨z,hd,vs,rel,dd⟩:=wG I.hok e
  refine wpAny_notIn_of (qC ry) hd dd.mapOf ?_
  rw [<- (rel.val k).isSome_eq,<- l]
  exact h _ (I.tok _)
 ·subst ey
  cases (show u=Value.ref b from ry)
  obtain ⟨z,hd,xs,rel,dd⟩:=zV I.hok e
  refine wpAny_notIn_heap (tupleKind_room_in1 hu) (uF I.hok eb) hd dd ?_
  have q:=(rel.val k).isSome_eq
  rw [Wh] at q
  rw [<- q,<- l]
  exact h _ (I.tok _)
theorem uG {h':Heap} {t':Nat} {ob:HO} (I:Inv X pins σ H s) (mu:Mut (H a)) (hs:Heap.SameBut a s.heap h') (he:∃ q,h'.get? a=some q) (new:bW X.prog X.w (upd H a ob) h' a ob) :
  Inv X pins σ (upd H a ob) { s with heap:=h',toks:=t' } :=
 I.write (x:=a) (e:=a) mu (.inl rfl) (fun b q hb z=>(hs.2 b hb).trans z) he new
theorem aB0 {P:Program} {w:World} {H':Hp} {h':Heap} {kvs:List (Key×V)} {vs:List (Key×Value)} (z:kvs.length<=sizeLine) (hd:(a==sysModules)=false) (rel:KV kvs vs) (dd:h'.DictOf (bC P w) a vs) :
  bW P w H' h' a (.dK kvs):=⟨z,hd,vs,rel,dd⟩
theorem tP {H':Hp} {Q:Unit->Shared->Prop} (hu:A.units+1 < cLine) (I:Inv X pins σ H s) (g:oU H a y v H') (ry:bD y u) (rv:bD v r) (h:∀ s',Inv X pins σ H' s'->Q () s') :
  wpAny (model X.prog X.w) A (setItem (.ref a) u r) Q E s:=by
 rcases g with ⟨kvs,k,e,ey,l,eH⟩ | ⟨kvs,k,b,e,ey,eb,l,eH⟩
 ·subst ey eH
  obtain ⟨z,hd,vs,rel,dd⟩:=aFV I.hok e
  have hz:vs.length<=sizeLine:=by rw [<- rel.length]; exact z
  have hl:(dZ kvs k v).length<=sizeLine:=by have:=jM kvs k v; omega
  refine wpAny_setItem_pairs (hsz:=hz) (qC ry) dd fun h' dd' hs=>h _ ?_
  have he:∃ q,h'.get? a=some q:=let ⟨q,_,_,hq,_⟩:=dd'; ⟨q,hq⟩
  exact uG I (by rw [e]; exact True.intro) hs he (aB0 hl hd (rel.put k rv) dd')
 ·subst ey eH
  cases (show u=Value.ref b from ry)
  obtain ⟨z,hd,xs,rel,dd⟩:=aFW I.hok e
  have hz:xs.length<=sizeLine:=by rw [<- Paired.length rel]; exact z
  have hl:(dZ kvs k v).length<=sizeLine:=by have:=jM kvs k v; omega
  refine wpAny_setItem_heap (hsz:=hz) (tupleKind_room_in1 hu) (uF I.hok eb) dd fun h' dd' hs=>h _ ?_
  obtain ⟨q,es,ep,hq,h2,h3,h4,_,h5⟩:=dd'
  refine uG I (by rw [e]; exact True.intro) hs ⟨q,hq⟩ ⟨hl,hd,_,(rel.put k eb rv).keeps fun c ys ec=>?_,q,es,ep,hq,h2,h3,h4,h5⟩
  rw [aG (aFo ec e (fun z=>nomatch z))]
  exact ec
end
section
variable {X:Cx} {pins:List (Addr×Obj)} {σ:St} {H:Hp} {s:Shared} {a:Addr} {kvs:List (Key×V)} {k:Key} {u:Value} {A:Around} {E:Value->Shared->Prop}
end
def aFX (i:Expr):Prop:=∀ ov iv,subscripted i false ov iv=operate [ov,iv] (getItem ov iv)
theorem aDs {prog:Program} {w:World} {A:Around} {E:Value->Shared->Prop} {s:Shared} {env:Env} {value slice:Expr} {pos:Pos} {T id:String} {Q:Value->Shared->Prop}
  (hl:typeLookup (.type T) "__getitem__" = pure (some (.builtin id))) (hs:aFX slice)
  (h:wpAny (model prog w) A (eval value env) (fun o s₁=>wpAny (model prog w) A (eval slice env) (fun i s₂=>s₂.TypeIs o T/\wpAny (model prog w) A (getItem o i) Q E s₂) E s₁) E s) :
  wpAny (model prog w) A (eval (.Subscript value slice pos) env) Q E s:=by
 refine Subscript_ (wpAny_mono h (fun o s₁ h₁=>wpAny_mono h₁ (fun i s₂ h₂=>?_) fun _ _ x=>x) fun _ _ x=>x)
 obtain ⟨hT,h₂⟩:=h₂
 unfold subscriptTail
 refine wpAny_bind ?_
 rw [getitemInPython_of_ne hT.not_modules]
 refine wpAny_bind (wpAny_specialOf hT hl ?_)
 have fin:wpAny (model prog w) A (subscripted slice false o i) (fun r s₃=>wpAny (model prog w) A (letTemporaryGo value o r >>= fun _=>pure r) Q E s₃) E s₂:=by
  rw [hs o i]
  exact wpAny_operating (wpAny_mono h₂ (fun r s₃ h₃=>wpAny_bind (wpAny_letTemporaryGo (wpAny_pure h₃))) fun _ _ x=>x)
 first
  | exact wpAny_pure (wpAny_bind fin)
  | exact wpAny_bind (wpAny_pure (wpAny_bind fin))
  | exact wpAny_bind fin
theorem wH {X:Cx} {pins:List (Addr×Obj)} {σ:St} {H:Hp} {s:Shared} {a:Addr} {y:V} {o:Option V} (I:Inv X pins σ H s) (g:qD H a y o):s.TypeIs (.ref a) "dict" := by
 rcases g with ⟨kvs,k,e,_,_⟩ | ⟨kvs,k,b,e,_,_,_⟩
 ·obtain ⟨_,_,vs,_,dd⟩:=wG I.hok e
  exact dd.typeIs
 ·obtain ⟨_,_,xs,_,dd⟩:=zV I.hok e
  exact dd.typeIs
def aFY (td ty:TE):TE:=fun σ H Q=>td σ H fun x H1=>ty σ H1 fun y H2=>∃ a v,x=.ref a/\qD H2 a y (some v)/\Q v H2
def aDt (ty td:TE):TE:=fun σ H Q=>ty σ H fun y H1=>td σ H1 fun x H2=>∃ a o,x=.ref a/\qD H2 a y o/\Q (.bl (!o.isSome)) H2
def aFZ (td ty tv:TE):TS:=fun D σ H=>tv σ H fun v H1=>td σ H1 fun x H2=>ty σ H2 fun y H3=>∃ a H4,x=.ref a/\oU H3 a y v H4/\D.nx σ H4
def aF0 (td ty tv:TE) (rd:V->V->Hp->VK->Prop):TS:=fun D σ H=>td σ H fun x H1=>ty σ H1 fun y H2=>∃ a v,x=.ref a/\qD H2 a y (some v) /\
 tv σ H2 fun y2 H3=>rd v y2 H3 fun z H4=>∃ H5,oU H4 a y z H5/\D.nx σ H5
section
variable {X:Cx} {o i e value:Expr} {pos pos' tpos:Pos} {td ty tv:TE}
theorem jN (hu:X.A.units+1 < cLine) (ho:PE X o td) (hi:PE X i ty) (hs:aFX i):PE X (.Subscript o i pos) (aFY td ty):=by
 intro pins s σ H Q I h
 refine aDs PySem.F.slot_dict_getitem.lookup hs (thn (ho pins s σ H _ I h) fun u s1 ⟨x,H1,I1,rx,q1⟩=>thn (hi pins s1 σ H1 _ I1 q1) fun iv s2 hx9=>?_)
 obtain ⟨y,H2,I2,ry,a,v,ex,g,q2⟩:=hx9
 subst ex
 obtain rfl:u=Value.ref a:=rx
 exact ⟨wH I2 g,tO hu I2 g ry fun w' s3 I3 rw'=>⟨v,H2,I3,rw',q2⟩⟩
theorem aAR (hu:X.A.units+1 < cLine) (hi:PE X i ty) (ho:PE X o td):PC X .NotIn i o (aDt ty td):=by
 intro pins s σ H Q I h
 refine thn (hi pins s σ H _ I h) fun iv s1 ⟨y,H1,I1,ry,q1⟩=>thn (ho pins s1 σ H1 _ I1 q1) fun u s2 hx9=>?_
 obtain ⟨x,H2,I2,rx,a,ov,ex,g,q2⟩:=hx9
 subst ex
 obtain rfl:u=Value.ref a:=rx
 exact aDr hu I2 g ry fun s3 I3=>⟨.bl (!ov.isSome),H2,I3,rfl,q2⟩
theorem oY (hu:X.A.units+1 < cLine) (ho:PE X o td) (hi:PE X i ty) (hv:PE X value tv) (hs:swapsWith value (some (.Subscript o i pos')) pos.line X.env=pure false) :
  PS X (.Assign [.Subscript o i pos'] value pos) (aFZ td ty tv):=by
 intro pins s σ H D I h
 refine wpAny_Assign_Subscript (thn (hv pins s σ H _ I h) fun r s1 ⟨v,H1,I1,rv,q1⟩=>thn (ho pins s1 σ H1 _ I1 q1) fun u s2 ⟨x,H2,I2,rx,q2⟩=>thn (hi pins s2 σ H2 _ I2 q2) fun iv s3 hx9=>?_) hs
 obtain ⟨y,H3,I3,ry,a,H4,ex,g,q3⟩:=hx9
 subst ex
 obtain rfl:u=Value.ref a:=rx
 exact tP hu I3 g ry rv fun s4 I4=>⟨σ,H4,I4,q3⟩
theorem aDu {op:Operator} {rd:V->V->Hp->VK->Prop} (hu:X.A.units+1 < cLine) (ho:PE X o td) (hi:PE X i ty) (hv:PE X value tv) (hop:aFH X op rd)
  (ha:∀ ov iv new,augStore i ov iv new=(do holding [new,ov,iv] (setItem ov iv new); release [new,ov,iv] []; pure .next)):PS X (.AugAssign (.Subscript o i tpos) op value pos) (aF0 td ty tv rd):=by
 intro pins s σ H D I h
 refine wpAny_AugAssign_SubscriptAny (thn (ho pins s σ H _ I h) fun u s1 ⟨x,H1,I1,rx,q1⟩=>thn (hi pins s1 σ H1 _ I1 q1) fun iv s2 hx9=>?_) ha
 obtain ⟨y,H2,I2,ry,a,v,ex,g,q2⟩:=hx9
 subst ex
 obtain rfl:u=Value.ref a:=rx
 refine tO hu I2 g ry fun w' s3 I3 rw'=>thn (hv pins s3 σ H2 _ I3 q2) fun w2 s4 ⟨y2,H3,I4,ry2,q3⟩=>thn (hop pins s4 σ H3 v y2 w' w2 _ I4 rw' ry2 q3) fun w3 s5 hx9=>?_
 obtain ⟨z,H4,I5,rz,H5,g5,q4⟩:=hx9
 exact tP hu I5 g5 ry rz fun s6 I6=>⟨σ,H5,I6,q4⟩
end
theorem wI {P:Program} {w:World} {H:Hp} (h:Heap) (hb:sysModules < h.objs.size):bW P w H (h.push { cls:=.type "dict",data:=.dict #[] }) h.objs.size (.dK []) :=
 ⟨Jj _,beq_eq_false_iff_ne.mpr (Ne.symm (Jq hb)),[],.nil,Heap.DictOf.new h⟩
def aE0:TE:=fun _ H Q=>∀ p,H p=none->Q (.ref p) (upd H p (.dK []))
section
variable {X:Cx} {pos:Pos}
theorem wJ:PE X (.Dict [] [] pos) aE0:=fun pins s σ H Q I h =>
 wpAny_Dict_empty ⟨.ref s.heap.objs.size,_,I.laid (a:=s.heap.objs.size) (o:=.dK []) (t':=s.toks) (fun _ _ q=>Qc _ q) (Qk _) (wI s.heap I.big),rfl,h _ (I.hok.fresh (Qk _))⟩
end
def NF (H0:Hp) (a:Addr):Prop:=∀ o u,H0 a≠some (.frz o u)
section
variable {X:Cx} {pins:List (Addr×Obj)} {σ:St} {H:Hp} {s:Shared} {a:Addr}
theorem Inv.freeze {kvs:List (Key×V)} {o:Obj} (I:Inv X pins σ H s) (e:H a=some (.dK kvs)) (ho:s.heap.get? a=some o):Inv X pins σ (upd H a (.frz o (.dK kvs))) s:=by
 have m:Mut (H a):=by rw [e]; trivial
 have q:bW X.prog X.w H s.heap a (.dK kvs):=I.hok a _ e
 exact I.write (x:=a) (e:=a) (t':=s.toks) m (.inl rfl) (fun b u _ z=>z) ⟨o,ho⟩ ⟨ho,q⟩
theorem Inv.nf {kvs:List (Key×V)} (I:Inv X pins σ H s) (e:H a=some (.dK kvs)):NF X.H₀ a:=fun o u z=>by
 have:=I.base.frzs a o u z
 rw [e] at this; cases this
theorem Inv.thaw {kvs:List (Key×V)} {o:Obj} (I:Inv X pins σ H s) (e:H a=some (.frz o (.dK kvs))) (nf:NF X.H₀ a):Inv X pins σ (upd H a (.dK kvs)) s:=by
 have ne:∀ b,H b=none->b≠a:=fun b n z=>by rw [z,e] at n; cases n
 have nt:∀ b xs,H b=some (.tup xs)->b≠a:=fun b xs n z=>by rw [z,e] at n; cases n
 have no:∀ b x,H b=some (.own x)->b≠a:=fun b xs n z=>by rw [z,e] at n; cases n
 obtain ⟨ho,q⟩:s.heap.get? a=some o/\bW X.prog X.w H s.heap a (.dK kvs):=I.hok a _ e
 have un:Un X.fs X.ex X.H₀ (upd H a (.dK kvs)) X.s₀.heap s.heap:=by
  refine ⟨I.base.keep,I.base.slot,fun b ob q n hx=>?_,I.base.there,fun b xs q=>?_,fun b ob u q=>?_,fun b ps q=>?_⟩
  ·have z:=I.base.free b ob q n hx
   rw [aG (ne b z)]; exact z
  ·have z:=I.base.tups b xs q
   rw [aG (nt b xs z)]; exact z
  ·have z:=I.base.frzs b ob u q
   have n:b≠a:=fun y=>nf ob u (y ▸ q)
   rw [aG n]; exact z
  ·obtain ⟨m,z⟩:=I.base.tbls b ps q
   have n:b≠a:=fun y=>by rw [y,e] at z; cases z
   exact ⟨m,by rw [aG n]; exact z⟩
 refine ⟨I.ok,I.os,I.bare,un,I.loc,I.cell,?_,fun x c h=>?_,fun p hp=>?_,fun b u h=>?_,I.len⟩
 ·rw [aG (ne _ I.free)]; exact I.free
 ·have z:=I.freeC x c h
  rw [aG (ne _ z)]; exact z
 ·obtain ⟨p1,p2,p3⟩:=I.pin p hp
  exact ⟨p1,by rw [aG (ne _ p2)]; exact p2,p3⟩
 ·by_cases hb:b=a
  ·subst hb
   rw [aB] at h
   cases h
   exact bW.stay q (fun _ _ _ z=>z) (fun c z=>by rw [aG (no c _ z)]; exact z) (fun c xs z=>by rw [aG (nt c xs z)]; exact z)
  ·rw [aG hb] at h
   exact bW.stay (I.hok b u h) (fun _ _ _ z=>z) (fun c z=>by rw [aG (no c _ z)]; exact z) (fun c xs z=>by rw [aG (nt c xs z)]; exact z)
end
def Itd (a:Addr) (o:Obj) (kvs:List (Key×V)):It :=
 ⟨fun i H=>H a=some (.frz o (.dK kvs))/\i < kvs.length,fun i H x H'=>H'=H/\∃ p,kvs[i]?=some p/\x=kV p.1,fun i H=>H a=some (.frz o (.dK kvs))/\i=kvs.length⟩
theorem aB1 {P:Program} {w:World} {k:Key} {u:Value} (h:(bC P w).is k u=true):bD (kV k) u:=by
 rcases cP h with ⟨i,t,rfl,rfl⟩ | ⟨x,t,rfl,rfl⟩
 ·exact ⟨t,rfl⟩
 ·exact ⟨t,rfl⟩
theorem nT {P:Program} {w:World} {h:Heap} {a:Addr} {o:Obj} {es:Array DictEntry} {ep:Nat} {vs:List (Key×Value)} (ho:h.get? a=some o) (hd:o.data=.dict es ep) (d:h.DictOf (bC P w) a vs):h.DictAt (bC P w) a vs ep:=by
 obtain ⟨o',es',ep',q1,q2,q3,r⟩:=d
 rw [ho] at q1; cases q1
 rw [hd] at q3; cases q3
 exact ⟨o,es,ho,q2,hd,r⟩
theorem aAS {P:Program} {w:World} {K:PySem.W.Frag} {tg:Expr} (a it:Addr) (o:Obj) (es:Array DictEntry) (ep:Nat) (hd:o.data=.dict es ep) (kvs:List (Key×V)) :
  Turn P w K tg (Itd a o kvs) [it] it (fun i h=>h.IsKeyIter it a i kvs.length ep) where
 mem:=by simp
 obj:=fun i h st b hb=>by
  have e:b=it:=by simpa using hb
  subst e
  obtain ⟨o,e,c,d⟩:=st
  exact ⟨o,e,fun v z=>by rw [d] at z; cases z⟩
 keep:=fun i h h' st k=>st.at fun o e=>k it (by simp) o e
 item:=by
  intro X hP hw hK hc i pins s σ H E I hf st hg
  subst hP hw hK
  obtain ⟨hA,hi⟩:=hg
  obtain ⟨ho,hz,hs,vs,kv,dd⟩:s.heap.get? a=some o/\bW X.prog X.w H s.heap a (.dK kvs):=I.hok a _ hA
  have da:=nT ho hd dd
  have hl:kvs.length=vs.length:=kv.length
  obtain ⟨f0,f1,f2,f3,f4,f5⟩:=hf it (by simp)
  obtain ⟨⟨k,x⟩,hx⟩:∃ p,vs[i]?=some p:=⟨vs[i]'(by omega),by simp⟩
  rw [hl] at st
  refine wpAny_pyNext_dict_item st da hx fun key h' hkey st' sb=>?_
  have I1:Inv X pins σ H { s with heap:=h' }:=I.turned (t':=s.toks) (fun b o hb e=>(sb.2 b hb).trans e) f0 f1 f3 f4 f5
  obtain ⟨o',e',c',d'⟩:=id st'
  have hk:kvs[i]?=some (kvs[i]):=Qb hi
  have hkk:(kvs[i]).1=k:=by
   have e:=kv.keys
   have e1:(kvs.map (·.1))[i]?=some (kvs[i]).1:=by rw [Qe,hk]; rfl
   have e2:(vs.map (·.1))[i]?=some k:=by rw [Qe,hx]; rfl
   rw [e,e2] at e1
   exact (Option.some.inj e1).symm
  rw [<- hl] at st'
  exact ⟨key,rfl,zK (s:={ s with heap:=h' }) e' c' d' (by decide) ⟨kV k,H,I1,aB1 hkey,⟨rfl,_,hk,by rw [hkk]⟩,st',fun b hb=>(hf b hb).1⟩⟩
 done:=by
  intro X hP hw hK hc i pins s σ H E I hf st hg
  subst hP hw hK
  obtain ⟨hA,hi⟩:=hg
  obtain ⟨ho,hz,hs,vs,kv,dd⟩:s.heap.get? a=some o/\bW X.prog X.w H s.heap a (.dK kvs):=I.hok a _ hA
  have da:=nT ho hd dd
  have hl:kvs.length=vs.length:=kv.length
  obtain ⟨f0,f1,f2,f3,f4,f5⟩:=hf it (by simp)
  rw [hl] at st
  exact wpAny_pyNext_dict_end (I.ok.hd hc) st da (by simp; omega) fun h' eb=>⟨rfl,I.turned (t':=s.toks) (fun b o hb e=>eb b o hb e) f0 f1 f3 f4 f5⟩
 self:=fun _ _ _ _ _ st h=>wpAny_pyIter_keyiter st h
section
variable {X:Cx} {tg:Expr}
def aF1 (H0:Hp) (td:TE):TI:=fun σ H R=>td σ H fun x H1=>∃ a kvs,x=.ref a/\H1 a=some (.dK kvs)/\∀ o,NF H0 a->R (Itd a o kvs) (upd H1 a (.frz o (.dK kvs)))
theorem oZ {d:Expr} {td:TE} (hl:PE X d td):PI X tg d (aF1 X.H₀ td):=by
 intro pins s σ H R I h
 refine thn (hl pins s σ H _ I h) fun v s1 hx9=>?_
 obtain ⟨x,H1,I1,r1,q1⟩:=hx9
 obtain ⟨a,kvs,e,hq,q⟩:=q1
 subst e
 cases r1
 obtain ⟨hz,hs,vs,kv,dd⟩:bW X.prog X.w H1 s1.heap a (.dK kvs):=I1.hok a _ hq
 obtain ⟨o,es,ep,ho,oe,hd,r⟩:=id dd
 have da:=nT ho hd dd
 refine wpAny_pyIter_dict hs da ?_
 have I2:=(I1.freeze hq ho).kept (h':=s1.heap.push { cls:=.type "dict_keyiterator",data:=.fields #[.ref a,.int 0 0,.int vs.length 0,.int ep 0] }) (t':=s1.toks) fun b o e=>Qc _ e
 have nA:a≠s1.heap.objs.size:=Jq (Qm ho)
 refine ⟨s1.heap.objs.size,[s1.heap.objs.size],_,_,_,rfl,I2,aAS a _ o es ep hd kvs,?_,fun b hb=>?_,q o (I1.nf hq)⟩
 ·refine ⟨_,Qq _ rfl,rfl,?_⟩
  rw [kv.length]; rfl
 ·have e:b=s1.heap.objs.size:=by simpa using hb
  subst e
  exact I1.fpOk (Qk _) (by rw [aG (Ne.symm nA)]; exact I1.hok.fresh (Qk _))
def aF2 (H0:Hp) (t:TS):TS:=fun D σ H=>t { D with nx:=fun σ' H'=>∃ a o kvs,H' a=some (.frz o (.dK kvs))/\NF H0 a/\D.nx σ' (upd H' a (.dK kvs)) } σ H
theorem uH {st:Stmt} {t:TS} (h:PS X st t):PS X st (aF2 X.H₀ t):=by
 intro pins s σ H D I q
 refine thn (h pins s σ H _ I q) fun f s1 z=>?_
 cases f with
 | next =>
  obtain ⟨σ',H',I',a,o,kvs,e,nf,k⟩:=z
  exact ⟨σ',_,I'.thaw e nf,k⟩
 | brk=>exact z
 | cont=>exact z
 | ret u=>exact z
end
theorem qE {a:Addr} {o:Obj} {kvs:List (Key×V)} {g:TG} {tb:TS} {D:Ends} {σ:St} {H:Hp} (Pv:Nat->St->Hp->Prop) (h0:Pv 0 σ H) (hl:∀ i σ H,i<=kvs.length->Pv i σ H->H a=some (.frz o (.dK kvs)))
  (hs:∀ i p σ H,kvs[i]?=some p->Pv i σ H->g (kV p.1) σ H fun σ2 H2=>tb { D with nx:=Pv (i+1),ct:=Pv (i+1),bk:=D.nx } σ2 H2) (hd:∀ σ H,Pv kvs.length σ H->D.nx σ H) :
  ∃ W:Nat->Nat->St->Hp->Prop,(∃ m,W 0 m σ H)/\∀ i m σ H,W i m σ H ->
   ((Itd a o kvs).stop i H/\D.nx σ H)∨((Itd a o kvs).go i H/\∃ N:St->Hp->Prop,(∀ σ' H',N σ' H'->∃ m',m' < m/\W (i+1) m' σ' H')/\∀ x H',(Itd a o kvs).yld i H x H'->g x σ H' fun σ2 H2=>tb { D with nx:=N,ct:=N,bk:=D.nx } σ2 H2):=by
 refine ⟨fun i m σ H=>m=kvs.length - i/\i<=kvs.length/\Pv i σ H,⟨kvs.length,by simp,Jj _,h0⟩,?_⟩
 rintro i m σ H ⟨rfl,hi,p⟩
 have q:=hl i σ H hi p
 by_cases hlt:i < kvs.length
 ·refine .inr ⟨⟨q,hlt⟩,Pv (i+1),fun σ' H' p'=>⟨kvs.length - (i+1),by omega,rfl,hlt,p'⟩,fun x H' y=>?_⟩
  obtain ⟨rfl,v,hv,rfl⟩:=y
  exact hs i v σ H' hv p
 ·have e:i=kvs.length:=by omega
  subst e
  exact .inl ⟨⟨q,rfl⟩,hd σ H p⟩
def aE1 (tk tv:TE):TE:=fun σ H Q=>∀ p,H p=none->tk σ (upd H p (.dK [])) fun x H1=>tv σ H1 fun y H2=>∃ k,x=kV k/\H2 p=some (.dK [])/\Q (.ref p) (upd H2 p (.dK [(k,y)]))
section
variable {X:Cx} {pos:Pos} {ek ev:Expr} {tk tv:TE}
theorem wK (hk:PE X ek tk) (hv:PE X ev tv) (he:evalEachOpt [some ek] X.env = [some (eval ek X.env)]:=by rfl) (he2:evalEach [ev] X.env = [eval ev X.env]:=by rfl):PE X (.Dict [some ek] [ev] pos) (aE1 tk tv):=by
 intro pins s σ H Q I h
 have I0:Inv X pins σ (upd H s.heap.objs.size (.dK [])) { s with heap:=s.heap.push { cls:=.type "dict",data:=.dict #[] } }:=I.laid (a:=s.heap.objs.size) (o:=.dK []) (t':=s.toks) (fun _ _ q=>Qc _ q) (Qk _) (wI s.heap I.big)
 have h0:=h s.heap.objs.size (I.hok.fresh (Qk _))
 refine wpAny_Dict_pairs (knd:=bC X.prog X.w) (pairs:=[(eval ek X.env,do let x<-eval ev X.env; standAt pos; pure x)]) (by rw [he,he2]; rfl) (by simp) (by simp) ?_
 refine evalPairs_cons (thn (hk pins _ σ _ _ I0 h0) fun kv s1 hx9=>?_)
 obtain ⟨x,H1,I1,r1,q1⟩:=hx9
 refine wpAny_bind (thn (hv pins _ σ _ _ I1 q1) fun vv s2 hx9=>?_)
 obtain ⟨y,H2,I2,r2,q2⟩:=hx9
 refine wpAny_bind (wpAny_standAt (wpAny_pure (evalPairs_nil ?_)))
 obtain ⟨k,rfl,hp,q⟩:=q2
 obtain ⟨hz,hs,vs,kv',dd⟩:bW X.prog X.w H2 s2.heap s.heap.objs.size (.dK []):=I2.hok _ _ hp
 have ev0:vs = []:=by
  have:=kv'.length
  exact Wm.mp this.symm
 subst ev0
 refine ⟨[(k,vv)],⟨qC r1,rfl,trivial⟩,dd,fun h' dd' sb=>?_⟩
 have em:merged ([]:List (Key×Value)) [(k,vv)] = [(k,vv)]:=by simp [merged,stored]
 rw [em] at dd'
 obtain ⟨o',es',ep',ho',_⟩:=id dd'
 have mu:Mut (H2 s.heap.objs.size):=by rw [hp]; trivial
 refine ⟨.ref s.heap.objs.size,_,uG (t':=s2.toks+1) I2 mu sb ⟨_,ho'⟩ (aB0 (kvs:=[(k,y)]) (by simp [sizeLine_eq]) hs (.cons ⟨rfl,r2⟩ .nil) dd'),rfl,q⟩
end
section
variable {prog:Program} {w:World} {A:Around} {E:Value->Shared->Prop} {s:Shared}
def jV (h:Heap) (u:Value) (i:Int) (v:Value):Prop:=∃ p,u=.ref p/\((∃ its:Array Value,h.IsTuple p its/\0<=i/\i < 1000/\its[i.toNat]?=some v)∨∃ its:Array Value,h.IsList p its/\0<=i/\i < 1000/\its[i.toNat]?=some v)
theorem jV.keeps {h h':Heap} {u:Value} {i:Int} {v:Value} (x:jV h u i v) (k:∀ b o,h.get? b=some o->h'.get? b=some o):jV h' u i v:=by
 obtain ⟨p,rfl,⟨its,⟨o,ho,r⟩,q⟩ | ⟨its,⟨o,ho,r⟩,q⟩⟩:=x
 ·exact ⟨p,rfl,.inl ⟨its,⟨o,k _ _ ho,r⟩,q⟩⟩
 ·exact ⟨p,rfl,.inr ⟨its,⟨o,k _ _ ho,r⟩,q⟩⟩
theorem mT {i:Int} {n:Nat} (h0:0<=i) (h1:i.toNat < n):seqIndex? i n=some i.toNat:=by
 unfold seqIndex?
 have e:¬ (i < 0):=by omega
 simp only [e,if_false]
 have e2:(decide (0<=i) && decide (i < (n:Int)))=true:=by simp; omega
 rw [if_pos e2]
theorem aDv {env:Env} {vn xn:Str} {p1 p2 p3:Pos} {m:Str->Option Value} {c:Addr} {u v:Value} {i:Int} {t:Tok} {Q:Value->Shared->Prop} (hk:env.scope.kind=.function) (hv:env.kindOf vn=some .free) (hx:env.kindOf xn=some .local)
  (hc:env.cells.lookup vn=some c) (hC:s.heap.IsCell c (some u)) (hn:s.heap.Ns env.locals m) (hm:m xn=some (.int i t)) (hI:jV s.heap u i v) (h:Q v s)
  (d1:(vn==("__debug__" : Str))=false) (d2:(vn==("__classdict__" : Str))=false) (d3:(xn==("__debug__" : Str))=false) :
  wpAny (model prog w) A (eval (.Subscript (.Name vn p1) (.Name xn p2) p3) env) Q E s:=by
 refine Subscript_ (wpAny_Name (wpAny_loadName_free hk hv hc hC ?_ d2) d1)
 refine wpAny_Name (wpAny_loadName_local hk hx hn hm ?_) d3
 obtain ⟨p,rfl,⟨its,hp,i0,i1,e⟩ | ⟨its,hp,i0,i1,e⟩⟩:=hI
 ·have hlt:i.toNat < its.size:=(Array.getElem?_eq_some_iff.mp e).1
  exact subscriptTail_builtinR (x:=v) hp.typeIs slot_tuple_getitem.lookup
   (getItem_tuple (j:=i.toNat) (Q:=fun r s'=>r=v/\Q r s') hp (by omega) (by omega) (mT i0 hlt) e ⟨rfl,h⟩)
 ·have hlt:i.toNat < its.size:=(Array.getElem?_eq_some_iff.mp e).1
  exact subscriptTail_builtinR (x:=v) hp.typeIs slot_list_getitem.lookup
   (wpAny_getItem_list (Q:=fun r s'=>r=v/\Q r s') hp (by omega) (by omega) e ⟨rfl,h⟩)
section
variable {R:Result->Shared->Prop} {I:Addr} {fp wr:List Addr} {n:Nat} {Pv:Nat->Value->Prop} {St:Nat->Heap->Prop} {f:Addr} {kf:Nat->Int} {L:List (Addr×Obj)}
end
end
structure Lm (K:PySem.W.Frag) (mg:Str->Option Value) (base:Heap) (c P:Addr):Prop where
 hd:PySem.W.codeHdIn K c P=true
 gP:mainGlobals≠P
 bu:base.BuiltinsAt mg P
theorem lZ {pos p0:Pos} {c cv:Value}:∀ {l:List Value},TriplesOk l->codeAmong pos (l++[rawInt p0.line,rawInt p0.col,c])=some cv->codeAmong pos l=some cv∨cv=c
 | [],_,e=>by
  simp only [Zg,rawInt,codeAmong] at e
  split at e
  ·exact .inr (Option.some.inj e).symm
  ·cases e
 | .int a t::.int b u::x::r,h,e=>by
  simp only [Wp,codeAmong] at e ⊢
  split
  ·rename_i hc
   rw [if_pos hc] at e
   exact .inl e
  ·rename_i hc
   rw [if_neg hc] at e
   exact lZ (show TriplesOk r from h) e
section
variable {X:Cx} {pins:List (Addr×Obj)} {σ:St} {H:Hp} {s:Shared} {c P c':Addr} {q:Str} {ps:Array Value} {h':Heap} {t':Nat}
theorem Inv.grown {p0:Pos} (I:Inv X pins σ H s) (hT:H P=some (.tab q)) (hx:Heap.ExtBut P s.heap h') (hge:s.heap.objs.size<=c') (hcr:h'.CodeRec (.ref c') q) (hP0:s.heap.get? P=some (PySem.W.tabObj ps)) (hPt:h'.get? P=some (PySem.W.tabObj (ps++#[rawInt p0.line,rawInt p0.col,.ref c']))) :
  Inv X pins σ (upd H c' (.own P)) { s with heap:=h',toks:=t' }:=by
 have hf:H c'=none:=I.hok.fresh hge
 have hn:∀ b,H b=none->b≠P:=fun b n z=>by rw [z,hT] at n; cases n
 have hc:∀ b u,H b=some u->b≠c':=fun b u n z=>by rw [z,hf] at n; cases n
 have hlt:∀ b o,s.heap.get? b=some o->b≠c':=fun b o e=>Jq (Qi (Qm e) hge)
 obtain ⟨c2,oc,vs,tq,ec,hoc,hdc,hv⟩:=hcr
 cases ec
 refine I.un ⟨fun b o e n _ _=>hx b o (hn b n) e,fun b o e n _ _=>⟨o.slots,hx b o (hn b n) e⟩,fun b o e n _=>by rw [aG (hlt b o e)]; exact n,fun b o e _=>?_,fun b xs e=>by rw [aG (hc b _ e)]; exact e,fun b o u e=>by rw [aG (hc b _ e)]; exact e,fun b ps e=>⟨#[],by rw [aG (hc b _ e),e]; simp⟩⟩ ?_
 ·by_cases hb:b=P
  ·subst hb; exact ⟨_,hPt⟩
  ·exact ⟨o,hx b o hb e⟩
 ·intro b u e
  by_cases hb:b=c'
  ·subst hb
   rw [aB] at e; cases e
   exact ⟨oc,hoc⟩
  ·rw [aG hb] at e
   by_cases hbP:b=P
   ·subst hbP
    rw [hT] at e; cases e
    obtain ⟨ps0,e0,tr,r⟩:∃ ps:Array Value,s.heap.get? b=some { cls:=.none,data:=.fields ps }/\TriplesOk ps.toList/\∀ (pos:Pos) (cv:Value),codeAmong pos ps.toList=some cv->∃ (c:Addr) (o:Obj) (vs:Array Value) (t:Tok),cv=.ref c/\H c=some (.own b)/\s.heap.get? c=some o/\o.data=.fields vs/\(vs[1]?:Option Value)=some (.str q t):=I.hok b _ hT
    rw [hP0] at e0
    cases e0
    have el:(ps++#[rawInt p0.line,rawInt p0.col,Value.ref c']).toList=ps.toList++[rawInt p0.line,rawInt p0.col,.ref c']:=by simp
    refine ⟨_,hPt,by rw [el]; exact TriplesOk_snoc _ _ _ _ tr,fun pos cv z=>?_⟩
    rw [el] at z
    rcases lZ tr z with z | rfl
    ·obtain ⟨c3,o3,vs3,t3,r1,r2,r3,r4⟩:=r pos cv z
     have n3:c3≠b:=fun y=>by rw [y,hT] at r2; cases r2
     exact ⟨c3,o3,vs3,t3,r1,by rw [aG (hc _ _ r2)]; exact r2,hx _ _ n3 r3,r4⟩
    ·exact ⟨c',oc,vs,tq,rfl,aB,hoc,hdc,hv⟩
   ·refine (I.hok b u e).stay (fun d v hd z=>hx d v ?_ z) (fun d z=>by rw [aG (hc _ _ z)]; exact z) fun d xs z=>by rw [aG (hc _ _ z)]; exact z
    rcases hd with rfl | hd
    ·exact hbP
    ·intro z
     rw [z,hT] at hd; cases hd
theorem aB2 {params:Arguments} {body:Expr} {scope:Scope} {pos:Pos} {cl:List (Str×Addr)} {Q:Value->Shared->Prop} {E:Value->Shared->Prop} (I:Inv X pins σ H s) (Z:Lm X.K X.mg X.base c P) (hcode:X.env.code=.ref c) (hT:H P=some (.tab q)) (hq:X.env.qual ++ "<lambda>" = q)
  (hdef:defaultsOf params X.env=([],[])) (hcl:closureFor scope X.env=pure cl)
  (h:∀ f c' ctv pm s' H',Inv X pins σ H' s'->aE H H'->(∀ b o,b≠P->s.heap.get? b=some o->s'.heap.get? b=some o) ->
   s'.heap.get? f=some { cls:=.type "function",data:=.func (PySem.W.kla_fn "<lambda>" q params body scope cl pm (.ref c') ctv) }->s'.heap.CodeRec (.ref c') q->Q (.ref f) s') :
  wpAny (model X.prog X.w) X.A (eval (.Lambda params body scope pos) X.env) Q E s:=by
 obtain ⟨ps,hP,tr,r⟩:∃ ps:Array Value,s.heap.get? P=some { cls:=.none,data:=.fields ps }/\TriplesOk ps.toList/\∀ (pos:Pos) (cv:Value),codeAmong pos ps.toList=some cv->∃ (c:Addr) (o:Obj) (vs:Array Value) (t:Tok),cv=.ref c/\H c=some (.own P)/\s.heap.get? c=some o/\o.data=.fields vs/\(vs[1]?:Option Value)=some (.str q t):=I.hok P _ hT
 have hg:s.heap.Ns mainGlobals X.mg:=I.mod.glob.keeps I.bk
 have C:PySem.W.CodeHd s.heap c P:=PySem.W.codeHd_of_K I.kIn Z.hd
 have hb:s.heap.BuiltinsAt X.mg P:=by
  obtain ⟨bm,o,e1,e2,e3,e4,e5,e6⟩:=Z.bu
  exact ⟨bm,o,e1,e2,e3,e4,I.bk _ _ e5,e6⟩
 refine PySem.W.kla_eval hdef ?_
 rw [hq]
 cases hf:codeAmong pos ps.toList with
 | none =>
  refine PySem.W.kla_makeFunction hcl I.ok.glob hg hcode C hP tr hf Z.gP hb fun c' ctv h' tk hx hge hlt hcr hPt=>?_
  have I1:Inv X pins σ (upd H c' (.own P)) { s with heap:=h',toks:=tk }:=I.grown hT hx hge hcr hP hPt
  have I2:=I1.kept (h':=h'.push (PySem.W.kla_obj "<lambda>" q params body scope cl ((X.mg "__name__").getD .none) c' ctv)) (t':=tk) fun b o e=>Qc _ e
  refine h _ c' ctv _ _ _ I2 (aE.new (I.hok.fresh hge)) (fun b o hbP e=>Qc _ (hx b o hbP e)) (Qq _ rfl) ?_
  obtain ⟨c2,oc,vs,tq,ec,hoc,r⟩:=hcr
  exact ⟨c2,oc,vs,tq,ec,Qc _ hoc,r⟩
 | some cv =>
  obtain ⟨c',o,vs,t,rfl,r2,r3,r4,r5⟩:=r pos cv hf
  refine PySem.W.kla_makeFunctionHit hcl I.ok.glob hg hcode C hP tr hf hb fun ctv h' tk kk hsz=>?_
  have I2:=I.kept (h':=h'.push { cls:=.type "function",data:=.func (PySem.W.kla_fn "<lambda>" q params body scope cl ((X.mg "__name__").getD .none) (.ref c') ctv) }) (t':=tk) fun b o e=>Qc _ (kk b o e)
  exact h _ c' ctv _ _ _ I2 (aE.refl H) (fun b o _ e=>Qc _ (kk b o e)) (Qq _ rfl) ⟨c',o,vs,t,rfl,Qc _ (kk _ _ r3),r4,r5⟩
end
def zW (K:PySem.W.Frag) (H:Hp) (u:V) (n k:Int):Prop:=0<=n/\n < 1000/\∃ a xs,u=.ref a/\(SqT K H a xs∨SqL K H a xs)/\xs[n.toNat]?=some (.int k)
section
variable {X:Cx} {pins:List (Addr×Obj)} {σ:St} {H:Hp} {s:Shared}
theorem aDw {u:V} {uv:Value} {n k:Int} (I:Inv X pins σ H s) (hk:zW X.K H u n k) (r:bD u uv):∃ t,jV s.heap uv n (.int k t):=by
 obtain ⟨h0,h1,a,xs,rfl,hx | hx,he⟩:=hk
 ·cases r
  obtain ⟨its,rv,p,hz⟩:=I.tuple hx
  obtain ⟨w',ew,t,rfl⟩:=rv.get he
  exact ⟨t,a,rfl,.inl ⟨its.toArray,p,h0,h1,by simpa using ew⟩⟩
 ·cases r
  obtain ⟨its,rv,p,hz⟩:=I.list hx
  obtain ⟨w',ew,t,rfl⟩:=rv.get he
  exact ⟨t,a,rfl,.inr ⟨its.toArray,p.isList,h0,h1,by simpa using ew⟩⟩
theorem jV.obj {h:Heap} {u:Value} {i:Int} {v:Value} (x:jV h u i v):∃ p o,u=.ref p/\h.get? p=some o/\∀ h':Heap,h'.get? p=some o->jV h' u i v:=by
 obtain ⟨p,rfl,⟨its,⟨o,ho,r⟩,q⟩ | ⟨its,⟨o,ho,r⟩,q⟩⟩:=x
 ·exact ⟨p,o,rfl,ho,fun h' e=>⟨p,rfl,.inl ⟨its,⟨o,e,r⟩,q⟩⟩⟩
 ·exact ⟨p,o,rfl,ho,fun h' e=>⟨p,rfl,.inr ⟨its,⟨o,e,r⟩,q⟩⟩⟩
end
def aB3 (ts:List (Addr×Str)) (H:Hp):Prop:=(∀ b,H b=none∨(∃ o xs,H b=some (.frz o (.lst xs)))∨∃ q,H b=some (.tab q)/\(b,q)∈ts)/\∀ p∈ts,H p.1=some (.tab p.2)
theorem qF {h:Heap} {c P:Addr} (C:PySem.W.CodeHd h c P) (e:h.get? P=some (PySem.W.tabObj #[])):isCodeTable h P:=(C.tab e).isCodeTable
theorem aAT {P:Program} {w:World} {K:PySem.W.Frag} {mg mb:Str->Option Value} {CX:CXT} {k:Nat} {fa a:Addr} {fd:FuncData} {x:Str} {sp:Sp} {s₁:Shared} {vs:List Value} {ns:List Int} {ts:List (Addr×Str)}
  (KX:K.In s₁.heap) (hns:s₁.heap.Ns mainGlobals mg) (hb:s₁.heap.Ns builtinsNs mb) (hbb:∀ x:Str,x ≠ "__name__" -> mb x=bootBuiltins x) (hlim:s₁.heap.NoLimit) (hmod:∃ mm,s₁.heap.Ns sysModules mm) (hg:s₁.gens = #[])
  (hbm:∃ bm ob,mg "__builtins__" = some (.ref bm)/\bm≠builtinsNs/\s₁.heap.get? bm=some ob/\ob.cls=.type "module" /\ ob.dict=some builtinsNs/\ob.data=.plain)
  (hts:∀ p∈ts,s₁.heap.get? p.1=some (PySem.W.tabObj #[])/\K.lookup p.1=none/\∃ c,PySem.W.CodeHd s₁.heap c p.1) (hnd:(ts.map (·.1)).Nodup)
  (ha:s₁.heap.get? a=some { cls:=.type "list",data:=.seq vs.toArray }) (hi:IntsAre vs ns) (hl:ns.length<=sizeLine) (hr:Room k callerA)
  (F:∀ base:Heap,K.In base->base.Ns mainGlobals mg->(∀ p∈ts,base.BuiltinsAt mg p.1)->FnOk P w K mg base CX k fa fd [x] sp) (hbind:∀ (s:Shared) (u:Value),BindsTo s fd ⟨[u],[]⟩ [(x,u)])
  (hsp:∀ H:Hp,aB3 ts H->SqL K H a (ns.map V.int)->sp [.ref a] H (fun v H'=>v=.bl true/\∀ p∈ts,H' p.1=some (.tab p.2)) fun _ _ _=>False)
  (hCX:∀ H e s',CX [] H s₁ (fun _ _ _=>False) e s'->False) :
  codeAny (model P w) callerA (.call (.ref fa) ⟨[.ref a],[]⟩) (fun r s'=>r=.ok (.ret (.bool true))/\OldK s₁.heap s'.heap/\s'.os=s₁.os/\AllBare s'.gens) s₁:=by
 have rv:=tK hi
 have lenV:=hi.length
 have na:∀ p∈ts,p.1≠a:=fun p hp z=>by
  have:=(hts p hp).1
  rw [z,ha] at this; cases this
 -- from an abstract heap in which nothing but the script and the tables may be tracked
 have core:∀ H:Hp,aB3 ts H->SqL K H a (ns.map V.int)->HOk P w H s₁.heap->(∀ b,H b≠none->b=a∨∃ q,(b,q)∈ts)->(H a≠none->K.lookup a=none) ->
   codeAny (model P w) callerA (.call (.ref fa) ⟨[.ref a],[]⟩) (fun r s'=>r=.ok (.ret (.bool true))/\OldK s₁.heap s'.heap/\s'.os=s₁.os/\AllBare s'.gens) s₁:=by
  intro H hO hS hok hA hK
  have base_of:∀ {b:Addr} {o:Obj},s₁.heap.get? b=some o->H b=none->(sH s₁.heap H).get? b=some o:=fun e n=>aBr e n
  have noA:∀ {b:Addr} {o:Obj} {es:Array DictEntry} {ep:Nat},s₁.heap.get? b=some o->o.data=.dict es ep->H b=none:=fun {b o es ep} e d=>by
   cases q:H b with
   | none=>rfl
   | some u =>
    rcases hA b (by rw [q]; simp) with e' | ⟨q',e'⟩
    ·subst e'
     rw [ha] at e; cases e
     have d':Data.seq vs.toArray _=Data.dict es ep:=d
     cases d'
    ·have:=(hts _ e').1
     have e2:s₁.heap.get? b=some (PySem.W.tabObj #[]):=this
     rw [e] at e2; cases e2
     have d':Data.fields _=Data.dict es ep:=d
     cases d'
  have nsK:∀ {b:Addr} {m:Str->Option Value},s₁.heap.Ns b m->(sH s₁.heap H).Ns b m:=fun {b m} ⟨o,es,ep,e,d,r⟩=>⟨o,es,ep,base_of e (noA e d),d,r⟩
  have hKb:K.In (sH s₁.heap H):=fun b o e=>base_of (KX b o e) (by
   cases q:H b with
   | none=>rfl
   | some u =>
    rcases hA b (by rw [q]; simp) with e' | ⟨q',e'⟩
    ·subst e'
     rw [hK (by rw [q]; simp)] at e; cases e
    ·have:=(hts _ e').2.1
     have e2:K.lookup b=none:=this
     rw [e] at e2; cases e2)
  have hBu:∀ p∈ts,(sH s₁.heap H).BuiltinsAt mg p.1:=fun p hp=>by
   obtain ⟨bm,ob,b1,b2,b3,b4,b5,b6⟩:=hbm
   have hn:H bm=none:=by
    cases q:H bm with
    | none=>rfl
    | some u =>
     rcases hA bm (by rw [q]; simp) with e' | ⟨q',e'⟩
     ·subst e'
      rw [ha] at b3; cases b3
      have d':Data.seq vs.toArray _=Data.plain:=b6
      cases d'
     ·have e2:s₁.heap.get? bm=some (PySem.W.tabObj #[]):=(hts _ e').1
      rw [b3] at e2; cases e2
      have d':Data.fields _=Data.plain:=b6
      cases d'
   refine ⟨bm,ob,b1,b2,fun z=>?_,fun z=>?_,base_of b3 hn,b4,b5,b6⟩
   ·obtain ⟨o,es,ep,e,d,r⟩:=hns
    rw [<- z,b3] at e; cases e
    rw [b6] at d; cases d
   ·have e2:s₁.heap.get? p.1=some (PySem.W.tabObj #[]):=(hts _ hp).1
    rw [<- z,b3] at e2; cases e2
    have d':Data.fields _=Data.plain:=b6
    cases d'
  have hM:Mod K mg (sH s₁.heap H):=⟨hKb,nsK hns,⟨mb,nsK hb,hbb⟩,let ⟨mc,h1,h2⟩:=hlim; ⟨mc,nsK h1,h2⟩,let ⟨mm,h1⟩:=hmod; ⟨mm,nsK h1⟩⟩
  have e0:Env0 P w K mg (sH s₁.heap H) callerA [] s₁ H:=⟨rfl,hM,fun b o e=>aC2 e,Nat.le_of_eq (aAA _ _),trivial,fun b hb=>absurd (show b∈([]:List Addr) from hb) (by simp),hok,.of_eq hg⟩
  refine codeAny_mono ((F _ hKb (nsK hns) hBu).run callerA [] s₁ H ⟨[.ref a],[]⟩ [.ref a] [.ref a] _ _ hr e0 (hbind s₁ (.ref a)) (.cons rfl .nil) (hsp H hO hS)) fun r s' h=>?_
  cases r with
  | error e=>exact (hCX H e s' h).elim
  | ok fl =>
   cases fl with
   | next=>exact False.elim h
   | brk=>exact False.elim h
   | cont=>exact False.elim h
   | ret u =>
    obtain ⟨v,H',os,bare,un,hok',r',q,qt⟩:=h
    have q':v=.bl true:=q
    subst q'
    obtain rfl:u=Value.bool true:=r'
    have keep:∀ b o,(∀ q,(b,q)∉ts)->s₁.heap.get? b=some o->s'.heap.get? b=some o:=fun b o hb e=>by
     cases q:H b with
     | none=>exact un.keep b o e q (by intro z; exact absurd (show b∈([]:List Addr) from z) (by simp)) (by simp)
     | some u =>
      rcases hO.1 b with z | ⟨ob,xs,z⟩ | ⟨q',z,zm⟩
      ·rw [q] at z; cases z
      ·have z2:=un.frzs b ob _ z
       obtain ⟨e1,_⟩:=hok b _ z
       obtain ⟨e2,_⟩:=hok' b _ z2
       rw [e] at e1; cases e1
       exact e2
      ·exact absurd zm (hb q')
    have grown:∀ b o q,(b,q)∈ts->s₁.heap.get? b=some o->isCodeTable s₁.heap b/\o=PySem.W.tabObj #[]/\∃ ps,s'.heap.get? b=some (PySem.W.tabObj ps):=fun b o q hm e=>by
     obtain ⟨h1,h2,c,h3⟩:=hts _ hm
     have h1':s₁.heap.get? b=some (PySem.W.tabObj #[]):=h1
     rw [e] at h1'
     obtain ⟨ps,hps,_⟩:bW P w H' s'.heap b (.tab q):=hok' b _ (qt _ hm)
     exact ⟨qF h3 h1,Option.some.inj h1',ps,hps⟩
    refine ⟨rfl,⟨fun b o e=>?_,fun b o e=>?_⟩,os,bare⟩
    ·by_cases hb:∃ q,(b,q)∈ts
     ·obtain ⟨q,hm⟩:=hb
      obtain ⟨ht,rfl,ps,hP⟩:=grown b o q hm e
      exact .inr (.inl ⟨ht,rfl,#[],ps,rfl,by rw [Array.empty_append]; exact hP⟩)
     ·exact .inl (keep b o (fun q z=>hb ⟨q,z⟩) e)
    ·by_cases hb:∃ q,(b,q)∈ts
     ·obtain ⟨q,hm⟩:=hb
      obtain ⟨_,_,ps,hP⟩:=grown b o q hm e
      exact ⟨_,hP⟩
     ·exact ⟨o,keep b o (fun q z=>hb ⟨q,z⟩) e⟩
 -- the tables
 have look:∀ {b:Addr} {q:Str},ts.lookup b=some q->(b,q)∈ts:=fun {b q} e=>by
  clear hts hnd hsp core na F
  induction ts with
  | nil=>cases e
  | cons p r ih =>
   rw [Xc] at e
   cases hb:b==p.1 with
   | true=>rw [hb] at e; cases e; rw [eq_of_beq hb]; exact .head _
   | false=>rw [hb] at e; exact .tail _ (ih e)
 have look2:∀ {b:Addr} {q:Str},(b,q)∈ts->ts.lookup b=some q:=fun {b q} e=>by
  clear hts hsp core na look F
  induction ts with
  | nil=>cases e
  | cons p r ih =>
   rw [Xc]
   rw [Jg,Xa] at hnd
   rcases Qp.mp e with rfl | e
   ·simp
   ·have:(b==p.1)=false:=by
     rw [beq_eq_false_iff_ne]
     intro z
     exact hnd.1 (Jd.mpr ⟨(b,q),e,z⟩)
    rw [this]
    exact ih hnd.2 e
 have tabOk:∀ (H:Hp) (b:Addr) (q:Str),(b,q)∈ts->bW P w H s₁.heap b (.tab q):=fun H b q hm=>⟨#[],(hts _ hm).1,trivial,fun pos cv z=>by simp [codeAmong] at z⟩
 cases hk:K.lookup a with
 | some o =>
  have e:=KX a o hk
  rw [ha] at e
  cases e
  refine core (fun b=>(ts.lookup b).map HO.tab) ⟨fun b=>?_,fun p hp=>by show (ts.lookup p.1).map HO.tab=_; rw [look2 (q:=p.2) hp]; rfl⟩ (.inr ⟨_,vs.toArray,_,hk,rfl,rfl,rfl,by rw [Qs,lenV]; exact hl,by simpa using rv⟩) (fun b u z=>?_) (fun b z=>?_) fun z=>?_
  ·cases q:ts.lookup b with
   | none=>exact .inl (by show (ts.lookup b).map HO.tab=none; rw [q]; rfl)
   | some y=>exact .inr (.inr ⟨y,by show (ts.lookup b).map HO.tab=_; rw [q]; rfl,look q⟩)
  ·have z':(ts.lookup b).map HO.tab=some u:=z
   cases q:ts.lookup b with
   | none=>rw [q] at z'; cases z'
   | some y=>rw [q] at z'; cases z'; exact tabOk _ _ _ (look q)
  ·have z':(ts.lookup b).map HO.tab≠none:=z
   cases q:ts.lookup b with
   | none=>rw [q] at z'; exact absurd rfl z'
   | some y=>exact .inr ⟨y,look q⟩
  ·exfalso
   have z':(ts.lookup a).map HO.tab≠none:=z
   cases q:ts.lookup a with
   | none=>rw [q] at z'; exact absurd rfl z'
   | some y=>exact na _ (look q) rfl
 | none =>
  have noa:ts.lookup a=none:=by
   cases q:ts.lookup a with
   | none=>rfl
   | some y=>exact absurd rfl (na _ (look q))
  refine core (fun b=>if b=a then some (.frz { cls:=.type "list",data:=.seq vs.toArray } (.lst (ns.map V.int))) else (ts.lookup b).map HO.tab) ⟨fun b=>?_,fun p hp=>?_⟩ (.inl (.inr ⟨{ cls:=.type "list",data:=.seq vs.toArray },if_pos rfl⟩)) (fun b u z=>?_) (fun b z=>?_) fun _=>hk
  ·by_cases hb:b=a
   ·exact .inr (.inl ⟨_,_,if_pos hb⟩)
   ·cases q:ts.lookup b with
    | none=>exact .inl ((if_neg hb).trans (by rw [q]; rfl))
    | some y=>exact .inr (.inr ⟨y,(if_neg hb).trans (by rw [q]; rfl),look q⟩)
  ·exact (if_neg (na p hp)).trans (by rw [look2 (q:=p.2) hp]; rfl)
  ·by_cases hb:b=a
   ·have z':=(if_pos hb).symm.trans z
    cases z'
    subst hb
    exact ⟨ha,by rw [Qa]; exact hl,vs,_,rv,ha⟩
   ·have z':=(if_neg hb).symm.trans z
    cases q:ts.lookup b with
    | none=>rw [q] at z'; cases z'
    | some y=>rw [q] at z'; cases z'; exact tabOk _ _ _ (look q)
  ·by_cases hb:b=a
   ·exact .inl hb
   ·cases q:ts.lookup b with
    | none=>exact absurd ((if_neg hb).trans (by rw [q]; rfl)) z
    | some y=>exact .inr ⟨y,look q⟩
theorem aB4 {l:PySem.W.OpenLaw} {n k:Nat} {q:Program} {loose:List Str} {XP:(Str->Option Value)->Heap->Prop} {YP:World->Heap->Prop} {d:DefRec} {K:Params->PySem.W.Frag} {CX:World->CXT} {sp:World->Sp} {x:Str} {ts:List (Addr×Str)}
  (hn:l.most=some n) (hn2:n<=sizeLine) (hdf:d.params.defaults = []) (hr:Room k callerA) (hq:importsNone q=true)
  (hY:∀ (w:World) (h:Heap),YP w h->(K w.params).In h)
  (hts:∀ (w:World) (h:Heap),YP w h->∀ p∈ts,h.get? p.1=some (PySem.W.tabObj #[])/\(K w.params).lookup p.1=none/\∃ c,PySem.W.CodeHd h c p.1) (hnd:(ts.map (·.1)).Nodup)
  (F:∀ (w:World) (mg:Str->Option Value) (fa:Addr) (h:Heap),(K w.params).In h->h.Ns mainGlobals mg->mg d.name=some (.ref fa) ->
   ∃ fd:FuncData,(∀ (s:Shared) (u:Value),BindsTo s fd ⟨[u],[]⟩ [(x,u)]) /\
    ∀ base:Heap,(K w.params).In base->base.Ns mainGlobals mg->(∀ p∈ts,base.BuiltinsAt mg p.1)->FnOk l.prog w (K w.params) mg base (CX w) k fa fd [x] (sp w))
  (hsp:∀ (w:World) (H:Hp) (a:Addr) (ns:List Int),ns.length<=n->aB3 ts H->SqL (K w.params) H a (ns.map V.int)->sp w [.ref a] H (fun v H'=>v=.bl true/\∀ p∈ts,H' p.1=some (.tab p.2)) fun _ _ _=>False)
  (hCX:∀ (w:World) (H:Hp) (s:Shared) (e:Value) (s':Shared),CX w [] H s (fun _ _ _=>False) e s'->False) :
  PySem.W.WalkO q loose XP YP l.row.toRowW d [] (fun f vs=>PySem.call f vs):=by
 refine Att.attach_call hn hdf fun w s₀ s₁ mg mb fa o pm cd doc a vs ns G Y ho hd hcd hmg hobj hints hlen hg=>?_
 have KX:=hY w _ Y
 obtain ⟨fd,hb,hF⟩:=F w mg fa _ KX G.T.g hmg
 exact aAT KX G.T.g G.T.b G.T.builtins G.T.nolimit (let ⟨mm,h1,_⟩:=(G.T.seer hq).mods; ⟨mm,h1⟩) hg G.T.bmain (hts w _ Y) hnd hobj hints (Qv hlen hn2) hr hF hb (fun H hO hS=>hsp w H a ns hlen hO hS) fun H e s'=>hCX w H s₁ e s'
section
variable {P:Program} {w:World} {K:PySem.W.Frag} {mg:Str->Option Value} {base:Heap}
theorem Fun.okC {x qual:Str} {st:Stmt} {f c:Addr} {fd:FuncData} {N ps:List Str} {k:Nat} {sp:Sp} (F:Fun K x qual st f fd) (hc:fd.code=.ref c) (S:FnScope N ps (aH st)) (len:∀ vs H Q E,sp vs H Q E->vs.length=ps.length)
  (hbody:∀ (A:Around) (outer:List Env) (s:Shared) (H:Hp) (vs:List V) (Q:VK) (E:XK),Room k (A.deeper (envOfC qual (aH st) s.heap.objs.size f (.ref c)))->sp vs H Q E ->
   ∃ t,PSs (xZ CX0 P w K mg base N qual (aH st) f (.ref c) A outer s H E).nox (eY st) t/\t { nx:=fun _ H'=>Q .non H',rt:=Q } (start N vs) H):FnOk P w K mg base CX0 (k+1) f fd ps sp:=by
 obtain ⟨oc,od,kV,doc,pm,an,cdv,ct,osl,rfl,lk,hcd⟩:=F.ex
 have e:cdv=.ref c:=hc
 subst e
 refine aEi lk hcd S len fun A outer s H vs Q E hr hsp=>?_
 obtain ⟨t,h,q⟩:=hbody A outer s H vs Q E hr hsp
 exact ⟨t,h.nox,q⟩
end
abbrev gA (h:Heap) (z TI TO:Addr) (f0:Value) (f1:Bool):Prop :=
 h.get? z=some { cls:=.type "zip",dict:=none,data:=.fields #[f0,.bool f1,.bool false,.ref TI,.ref TO],slots:=#[] }
def F0 (f:Value):Prop:=f=.none∨∃ a t,f=.int a t
theorem wL {M:Model} {A:Around} {E:Value->Shared->Prop} {s:Shared} {a:Addr} {Q:Option Obj->Shared->Prop} (h:Q (s.heap.get? a) s):wpAny M A (loadIfAlive a) Q E s:=fun Γ p _=>by
 show Sem.wp M Γ (.loadIfAlive a .pure) _ _ p s
 rw [Sem.wp_loadIfAlive]
 exact (Sem.wp_pure ..).mpr h
section
variable {prog:Program} {w:World} {A:Around} {E:Value->Shared->Prop} {s:Shared} {z TI TO i1 i2 l1 l2:Addr} {n1 n2:Nat} {P1 P2:Nat->Value->Prop} {st1 st2:Nat->Heap->Prop}
theorem aB5 {f0:Value} {f1:Bool} {Q:Bool->Shared->Prop} (hz:gA s.heap z TI TO f0 f1) (hf:F0 f0) (h1:Q true s) (h2:∀ h' b,gA h' z TI TO f0 b->Heap.SameBut z s.heap h'->Q false { s with heap:=h' }) :
  wpAny (model prog w) A (Builtin.SmallTypes.ownedTupleIsFree (.ref z)) Q E s:=by
 unfold Builtin.SmallTypes.ownedTupleIsFree
 rcases hf with rfl | ⟨a,t,rfl⟩
 ·exact wpAny_bind (wpAny_field hz rfl (x:=.none) rfl (wpAny_pure h1))
 ·refine wpAny_bind (wpAny_field hz rfl (x:=.int a t) rfl ?_)
  show wpAny (model prog w) A (loadIfAlive a.toNat >>= _) Q E s
  refine wpAny_bind (wL ?_)
  cases hq:s.heap.get? a.toNat with
  | none=>exact wpAny_pure h1
  | some o =>
   show wpAny (model prog w) A (field (.ref z) 1 >>= _) Q E s
   refine wpAny_bind (wpAny_field hz rfl (x:=.bool f1) rfl ?_)
   cases f1 with
   | true=>exact wpAny_pure (h2 s.heap true hz (Heap.SameBut.refl _ _))
   | false =>
    show wpAny (model prog w) A (setField (.ref z) 1 (.bool true) >>= _) Q E s
    refine wpAny_bind (wpAny_setField_rec hz (by simp) fun g hg b=>wpAny_pure (h2 g true hg b))
theorem aB6 {k:Nat} {a b f0:Value} {f1:Bool} {Q:Value->Shared->Prop} (D:ZipApart z TI TO i1 i2 l1 l2) (S1:Sub prog w i1 l1 n1 P1 st1) (S2:Sub prog w i2 l2 n2 P2 st2)
  (hz:gA s.heap z TI TO f0 f1) (hf:F0 f0) (hTI:IsPair s.heap TI (.ref i1) (.ref i2)) (hTO:IsPair s.heap TO a b) (h1:st1 k s.heap) (h2:st2 k s.heap) (k1:k < n1) (k2:k < n2)
  (hQ:∀ h' x y f0' f1',P1 k x->P2 k y->F0 f0'->gA h' z TI TO f0' f1'->(∃ a b,IsPair h' TO a b)->st1 (k+1) h'->st2 (k+1) h'->IsPair h' s.heap.objs.size x y->h'.objs.size=s.heap.objs.size+1 ->
   (∀ c o,c≠z->c≠TO->c≠i1->c≠i2->s.heap.get? c=some o->h'.get? c=some o)->Q (.ref s.heap.objs.size) { s with heap:=h' }) :
  wpAny (model prog w) A (Builtin.«zip.__next__» ⟨[.ref z],[]⟩) (fun fin s'=>∃ v,fin=.done (.ret v)/\Q v s') E s:=by
 refine wpAny_bind (m:=field (.ref z) 2) (wpAny_field hz rfl (x:=.bool false) rfl ?_)
 refine wpAny_bind (m:=field (.ref z) 3) (wpAny_field hz rfl (x:=.ref TI) rfl ?_)
 refine wpAny_bind (wpAny_seqItems hTI rfl ?_)
 refine wpAny_bind (m:=Builtin.SmallTypes.ownedTupleIsFree (.ref z)) (aB5 hz hf ?_ fun h0 fb hz0 b0=>?_)
 ·simp only [if_true]
  refine wpAny_bind (wpAny_rule ?_)
  refine wpAny_bind (wpAny_field hz rfl (x:=.ref TO) rfl ?_)
  refine wpAny_bind (wpAny_setField_rec hz (by simp) fun g1 hz1 b1=>?_)
  have hz1':gA g1 z TI TO .ellipsis f1:=hz1
  refine wpAny_bind ?_
  simp only [List.zipIdx_cons,List.zipIdx_nil,Yd,Yj]
  have s1:st1 k g1:=S1.keep _ _ _ h1 fun c hc o e=>b1.extBut c o (by rcases hc with r | r <;> rw [r]; exact D.i1z; exact D.l1z) e
  refine wpAny_bind (wpAny_bind (wpAny_onRaise ?_))
  refine wpAny_bind (m:=Builtin.SmallTypes.nextOf (.ref i1)) (S1.item _ k _ _ _ k1 s1 fun x g2 px t1 b2=>wpAny_pure ?_)
  have o2:IsPair g2 TO a b:=b2.extBut _ _ D.TOi1 (b1.extBut _ _ D.TOz hTO)
  refine wpAny_bind (wpAny_seqItems o2 rfl ?_)
  refine wpAny_bind (wpAny_updateSeq_pair o2 fun g3 o3 b3=>?_)
  have o3':IsPair g3 TO x b:=o3
  refine wpAny_bind (wpAny_letGo (wpAny_pure ?_))
  have s2:st2 k g3:=S2.keep _ _ _ h2 fun c hc o e=>by
   rcases hc with r | r
   ·rw [r] at e ⊢; exact b3.extBut _ _ D.TOi2.symm (b2.extBut _ _ D.i12.symm (b1.extBut _ _ D.i2z e))
   ·rw [r] at e ⊢; exact b3.extBut _ _ D.l2TO (b2.extBut _ _ D.l2i1 (b1.extBut _ _ D.l2z e))
  refine wpAny_bind (wpAny_bind (wpAny_onRaise ?_))
  refine wpAny_bind (m:=Builtin.SmallTypes.nextOf (.ref i2)) (S2.item _ k _ _ _ k2 s2 fun y g4 py t2 b4=>wpAny_pure ?_)
  have o4:IsPair g4 TO x b:=b4.extBut _ _ D.TOi2 o3'
  refine wpAny_bind (wpAny_seqItems o4 rfl ?_)
  refine wpAny_bind (wpAny_updateSeq_pair o4 fun g5 o5 b5=>?_)
  have o5':IsPair g5 TO x y:=o5
  refine wpAny_bind (wpAny_letGo (wpAny_pure (wpAny_pure ?_)))
  refine wpAny_bind (wpAny_seqItems o5' rfl ?_)
  refine wpAny_bind (wpAny_newTuple ?_)
  have sz:g5.objs.size=s.heap.objs.size:=by rw [b5.1,b4.1,b3.1,b2.1,b1.1]
  have z5:gA g5 z TI TO .ellipsis f1:=b5.extBut _ _ D.TOz.symm (b4.extBut _ _ D.i2z.symm (b3.extBut _ _ D.TOz.symm (b2.extBut _ _ D.i1z.symm hz1')))
  have kp5:∀ c o,c≠z->c≠TO->c≠i1->c≠i2->s.heap.get? c=some o->g5.get? c=some o:=fun c o c1 c2 c3 c4 e =>
   b5.extBut _ _ c2 (b4.extBut _ _ c4 (b3.extBut _ _ c2 (b2.extBut _ _ c3 (b1.extBut _ _ c1 e))))
  have t1':st1 (k+1) g5:=S1.keep _ _ _ t1 fun c hc o e=>by
   rcases hc with r | r
   ·rw [r] at e ⊢; exact b5.extBut _ _ D.TOi1.symm (b4.extBut _ _ D.i12 (b3.extBut _ _ D.TOi1.symm e))
   ·rw [r] at e ⊢; exact b5.extBut _ _ D.l1TO (b4.extBut _ _ D.l1i2 (b3.extBut _ _ D.l1TO e))
  have t2':st2 (k+1) g5:=S2.keep _ _ _ t2 fun c hc o e=>by
   rcases hc with r | r
   ·rw [r] at e ⊢; exact b5.extBut _ _ D.TOi2.symm e
   ·rw [r] at e ⊢; exact b5.extBut _ _ D.l2TO e
  have zlt:g5.objs.size≠z:=Wu (Qm z5)
  refine wpAny_bind (m:=Builtin.SmallTypes.ownedTupleHandOut (.ref z) (.ref g5.objs.size)) ?_
  unfold Builtin.SmallTypes.ownedTupleHandOut
  have z6:gA (g5.push { cls:=.type "tuple",data:=.seq #[x,y] }) z TI TO .ellipsis f1:=Qc _ z5
  refine wpAny_bind (wpAny_setField_rec z6 (by simp) fun g7 z7 b7=>?_)
  have z7':gA g7 z TI TO (rawInt g5.objs.size) f1:=z7
  refine wpAny_setField_rec z7' (by simp) fun g8 z8 b8=>?_
  have z8':gA g8 z TI TO (rawInt g5.objs.size) false:=z8
  have up:∀ c o,c≠z->g5.get? c=some o->g8.get? c=some o:=fun c o c1 e=>b8.extBut _ _ c1 (b7.extBut _ _ c1 (Qc _ e))
  have T8:IsPair g8 g5.objs.size x y:=b8.extBut _ _ zlt (b7.extBut _ _ zlt (Qq _ rfl))
  have sz8:g8.objs.size=s.heap.objs.size+1:=by rw [b8.1,b7.1,Xf,sz]
  rw [sz] at z8' T8
  refine wpAny_pure ⟨_,rfl,?_⟩
  show Q (.ref g5.objs.size) _
  rw [sz]
  refine hQ g8 x y _ _ px py (.inr ⟨_,_,rfl⟩) z8' ⟨_,_,up _ _ D.TOz o5'⟩ (S1.keep _ _ _ t1' fun c hc o e=>up c o (by rcases hc with r | r <;> rw [r]; exact D.i1z; exact D.l1z) e) (S2.keep _ _ _ t2' fun c hc o e=>up c o (by rcases hc with r | r <;> rw [r]; exact D.i2z; exact D.l2z) e) T8 sz8 fun c o c1 c2 c3 c4 e=>up c o c1 (kp5 c o c1 c2 c3 c4 e)
 ·simp only [Xq,if_false]
  have s1:st1 k h0:=S1.keep _ _ _ h1 fun c hc o e=>b0.extBut c o (by rcases hc with r | r <;> rw [r]; exact D.i1z; exact D.l1z) e
  rw [<- Array.forIn_toList]
  simp only [Yd,Yj]
  refine wpAny_bind (wpAny_bind (wpAny_bind (wpAny_holding ?_)))
  refine wpAny_bind (m:=Builtin.SmallTypes.nextOf (.ref i1)) (S1.item _ k _ _ _ k1 s1 fun x g2 px t1 b2=>wpAny_pure ?_)
  refine wpAny_pure ?_
  have s2:st2 k g2:=S2.keep _ _ _ h2 fun c hc o e=>by
   rcases hc with r | r
   ·rw [r] at e ⊢; exact b2.extBut _ _ D.i12.symm (b0.extBut _ _ D.i2z e)
   ·rw [r] at e ⊢; exact b2.extBut _ _ D.l2i1 (b0.extBut _ _ D.l2z e)
  refine wpAny_bind (wpAny_bind (wpAny_holding ?_))
  refine wpAny_bind (m:=Builtin.SmallTypes.nextOf (.ref i2)) (S2.item _ k _ _ _ k2 s2 fun y g4 py t2 b4=>wpAny_pure ?_)
  refine wpAny_pure (wpAny_pure ?_)
  refine wpAny_bind (wpAny_newTuple ?_ (by show 2<=sizeLine; rw [sizeLine_eq]; decide))
  have sz:g4.objs.size=s.heap.objs.size:=by rw [b4.1,b2.1,b0.1]
  have z4:gA g4 z TI TO f0 fb:=b4.extBut _ _ D.i2z.symm (b2.extBut _ _ D.i1z.symm hz0)
  have kp4:∀ c o,c≠z->c≠i1->c≠i2->s.heap.get? c=some o->g4.get? c=some o:=fun c o c1 c3 c4 e=>b4.extBut _ _ c4 (b2.extBut _ _ c3 (b0.extBut _ _ c1 e))
  have t1':st1 (k+1) g4:=S1.keep _ _ _ t1 fun c hc o e=>by
   rcases hc with r | r
   ·rw [r] at e ⊢; exact b4.extBut _ _ D.i12 e
   ·rw [r] at e ⊢; exact b4.extBut _ _ D.l1i2 e
  refine wpAny_pure ⟨_,rfl,?_⟩
  show Q (.ref g4.objs.size) _
  have T8:IsPair (g4.push { cls:=.type "tuple",data:=.seq #[x,y] }) g4.objs.size x y:=Qq _ rfl
  rw [sz] at T8 ⊢
  refine hQ _ x y _ _ px py hf (Qc _ z4) ⟨_,_,Qc _ (kp4 _ _ D.TOz D.TOi1 D.TOi2 hTO)⟩ (S1.keep _ _ _ t1' fun c hc o e=>Qc _ e) (S2.keep _ _ _ t2 fun c hc o e=>Qc _ e) T8 (by rw [Xf,sz]) fun c o c1 c2 c3 c4 e=>Qc _ (kp4 c o c1 c3 c4 e)
theorem aDx {k:Nat} {a b f0:Value} {f1:Bool} {Q:Fin->Shared->Prop} (hh:A.handled=none) (D:ZipApart z TI TO i1 i2 l1 l2) (S1:Sub prog w i1 l1 n1 P1 st1) (S2:Sub prog w i2 l2 n2 P2 st2)
  (hz:gA s.heap z TI TO f0 f1) (hf:F0 f0) (hTI:IsPair s.heap TI (.ref i1) (.ref i2)) (hTO:IsPair s.heap TO a b) (h1:st1 k s.heap) (h2:st2 k s.heap) (hend:k=n1/\k<=n2∨k=n2/\k < n1)
  (hE:∀ h' e,(∀ c o,c≠z->c≠TO->c≠i1->c≠i2->s.heap.get? c=some o->h'.get? c=some o)->(∃ o,h'.get? e=some o/\o.cls=.type "StopIteration")->E (.ref e) { s with heap:=h' }) :
  wpAny (model prog w) A (Builtin.«zip.__next__» ⟨[.ref z],[]⟩) Q E s:=by
 refine wpAny_bind (m:=field (.ref z) 2) (wpAny_field hz rfl (x:=.bool false) rfl ?_)
 refine wpAny_bind (m:=field (.ref z) 3) (wpAny_field hz rfl (x:=.ref TI) rfl ?_)
 refine wpAny_bind (wpAny_seqItems hTI rfl ?_)
 refine wpAny_bind (m:=Builtin.SmallTypes.ownedTupleIsFree (.ref z)) (aB5 hz hf ?_ fun h0 fb hz0 b0=>?_)
 ·simp only [if_true]
  refine wpAny_bind (wpAny_rule ?_)
  refine wpAny_bind (wpAny_field hz rfl (x:=.ref TO) rfl ?_)
  refine wpAny_bind (wpAny_setField_rec hz (by simp) fun g1 hz1 b1=>?_)
  have hz1':gA g1 z TI TO .ellipsis f1:=hz1
  refine wpAny_bind ?_
  simp only [List.zipIdx_cons,List.zipIdx_nil,Yd,Yj]
  have s1:st1 k g1:=S1.keep _ _ _ h1 fun c hc o e=>b1.extBut c o (by rcases hc with r | r <;> rw [r]; exact D.i1z; exact D.l1z) e
  refine wpAny_bind (wpAny_bind (wpAny_onRaise ?_))
  have fin:∀ (g:Heap) (e:Addr) (g0:Heap),(∃ o,g.get? e=some o/\o.cls=.type "StopIteration")->gA g z TI TO .ellipsis f1->(∀ c o,c≠z->c≠TO->c≠i1->c≠i2->s.heap.get? c=some o->g.get? c=some o) ->
    wpAny (model prog w) A (setField (.ref z) 0 .none) (fun _ s'=>E (.ref e) s') E { s with heap:=g }:=fun g e g0 ⟨oe,hoe,hce⟩ hzz kp=>by
   have hez:e≠z:=fun q=>by rw [q,hzz] at hoe; cases hoe; simp at hce
   exact wpAny_setField_rec hzz (by simp) fun g' _ b'=>hE g' e (fun c o c1 c2 c3 c4 q=>b'.extBut _ _ c1 (kp c o c1 c2 c3 c4 q)) ⟨oe,b'.extBut _ _ hez hoe,hce⟩
  rcases hend with ⟨e1,_⟩ | ⟨e2,k1⟩
  ·rw [e1] at s1
   refine wpAny_bind (m:=Builtin.SmallTypes.nextOf (.ref i1)) (S1.done _ _ _ _ hh s1 fun g2 e b2 he=>?_)
   exact fin g2 e g1 he (b2 _ _ D.i1z.symm hz1') fun c o c1 _ c3 _ q=>b2 _ _ c3 (b1.extBut _ _ c1 q)
  ·refine wpAny_bind (m:=Builtin.SmallTypes.nextOf (.ref i1)) (S1.item _ k _ _ _ k1 s1 fun x g2 px t1 b2=>wpAny_pure ?_)
   have o2:IsPair g2 TO a b:=b2.extBut _ _ D.TOi1 (b1.extBut _ _ D.TOz hTO)
   refine wpAny_bind (wpAny_seqItems o2 rfl ?_)
   refine wpAny_bind (wpAny_updateSeq_pair o2 fun g3 o3 b3=>?_)
   refine wpAny_bind (wpAny_letGo (wpAny_pure ?_))
   have s2:st2 n2 g3:=by
    rw [<- e2]
    exact S2.keep _ _ _ h2 fun c hc o e=>by
     rcases hc with r | r
     ·rw [r] at e ⊢; exact b3.extBut _ _ D.TOi2.symm (b2.extBut _ _ D.i12.symm (b1.extBut _ _ D.i2z e))
     ·rw [r] at e ⊢; exact b3.extBut _ _ D.l2TO (b2.extBut _ _ D.l2i1 (b1.extBut _ _ D.l2z e))
   refine wpAny_bind (wpAny_bind (wpAny_onRaise ?_))
   refine wpAny_bind (m:=Builtin.SmallTypes.nextOf (.ref i2)) (S2.done _ _ _ _ hh s2 fun g4 e b4 he=>?_)
   exact fin g4 e g3 he (b4 _ _ D.i2z.symm (b3.extBut _ _ D.TOz.symm (b2.extBut _ _ D.i1z.symm hz1'))) fun c o c1 c2 c3 c4 q=>b4 _ _ c4 (b3.extBut _ _ c2 (b2.extBut _ _ c3 (b1.extBut _ _ c1 q)))
 ·simp only [Xq,if_false]
  have s1:st1 k h0:=S1.keep _ _ _ h1 fun c hc o e=>b0.extBut c o (by rcases hc with r | r <;> rw [r]; exact D.i1z; exact D.l1z) e
  rw [<- Array.forIn_toList]
  simp only [Yd,Yj]
  refine wpAny_bind (wpAny_bind (wpAny_bind (wpAny_holding ?_)))
  rcases hend with ⟨e1,_⟩ | ⟨e2,k1⟩
  ·rw [e1] at s1
   refine wpAny_bind (m:=Builtin.SmallTypes.nextOf (.ref i1)) (S1.done _ _ _ _ hh s1 fun g2 e b2 he=>?_)
   exact hE g2 e (fun c o c1 _ c3 _ q=>b2 _ _ c3 (b0.extBut _ _ c1 q)) he
  ·refine wpAny_bind (m:=Builtin.SmallTypes.nextOf (.ref i1)) (S1.item _ k _ _ _ k1 s1 fun x g2 px t1 b2=>wpAny_pure ?_)
   refine wpAny_pure ?_
   have s2:st2 n2 g2:=by
    rw [<- e2]
    exact S2.keep _ _ _ h2 fun c hc o e=>by
     rcases hc with r | r
     ·rw [r] at e ⊢; exact b2.extBut _ _ D.i12.symm (b0.extBut _ _ D.i2z e)
     ·rw [r] at e ⊢; exact b2.extBut _ _ D.l2i1 (b0.extBut _ _ D.l2z e)
   refine wpAny_bind (wpAny_bind (wpAny_holding ?_))
   refine wpAny_bind (m:=Builtin.SmallTypes.nextOf (.ref i2)) (S2.done _ _ _ _ hh s2 fun g4 e b4 he=>?_)
   exact hE g4 e (fun c o c1 c2 c3 c4 q=>b4 _ _ c4 (b2.extBut _ _ c3 (b0.extBut _ _ c1 q))) he
structure ZipSt (h:Heap) (z TI TO i1 i2:Addr):Prop where
 hz:∃ f0 f1,F0 f0/\gA h z TI TO f0 f1
 ti:IsPair h TI (.ref i1) (.ref i2)
 to:∃ a b,IsPair h TO a b
end
section
variable {X:Cx} {es:List Expr} {x1:Nat} {tpos:Pos}
end
end L2
namespace L2
open PySem
section
variable {X:Cx} {K:PySem.W.Frag} {pos:Pos}
theorem kIn (hK:X.K=K):OpR X (compareOp .In) (rIn K false):=by subst hK; exact nM
end
section
variable {α β γ δ ε ζ η θ ι κ:Type}
end
end L2
namespace L2
open PySem PySem.Spec PyProof.Rows
section
variable {X:Cx}
end
section
variable {K:PySem.W.Frag} {own:Nat} {fr:List Nat} {g:TG} {te:TE} {σ:St} {H:Hp} {Qf:Hp->List V->Prop}
end
structure Tb (L:Bool) (t:SetTable) (n m:Nat):Prop where
 mask:(t.mask=7/\n<=m)∨(t.mask=31/\n<=18)
 dums:t.dummies = #[]
 plain:t.plain=true
 led:t.led=L
 size:t.place.size=n
 rise:t.place.toList.Pairwise (· < ·)
theorem Tb.fits {L:Bool} {t:SetTable} {n m:Nat} (T:Tb L t n m) (hm:m<=6):t.fits n=true:=by
 unfold SetTable.fits SetTable.fill
 rw [T.size,T.dums]
 have:n+(#[]:Array Nat).size<=t.mask:=by
  show n+0<=_
  rcases T.mask with ⟨a,b⟩ | ⟨a,b⟩ <;> omega
 rw [decide_eq_true this,beq_self_eq_true]
 rfl
def ent (p:Int×Tok):Int×Value:=(hashInt p.1,.int p.1 p.2)
def SG (L:Bool) (h:Heap) (a:Addr) (ks:List (Int×Tok)):Prop:=∃ o ep es t,h.get? a=some o/\o.ExactSet/\o.data=.set es ep t/\es.toList.Perm (ks.map ent)/\Tb L t es.size 4
theorem SG.keep {L:Bool} {h h':Heap} {a:Addr} {l:List (Int×Tok)} (x:SG L h a l) (k:∀ o,h.get? a=some o->h'.get? a=some o):SG L h' a l:=by
 obtain ⟨o,ep,es,t,e,r⟩:=x
 exact ⟨o,ep,es,t,k o e,r⟩
section
variable {prog:Program} {w:World} {A:Around} {E:Value->Shared->Prop} {s:Shared} {L:Bool} {a:Addr}
structure KsOf (ks:List (Int×Tok)) (ns:List Int):Prop where
 nd:(ks.map (·.1)).Nodup
 mem:∀ k,k∈ks.map (·.1)↔k∈ns
 len:ks.length<=ns.length
end
section
variable {prog:Program} {w:World} {A:Around} {E:Value->Shared->Prop} {s:Shared} {S:Addr} {o:Obj} {ep:Nat} {es:Array (Int×Value)} {t:SetTable}
end
section
variable {X:Cx}
end
open PySem.AutoSeq1 (wpAny_loadPart')
theorem sP (l:Addr) (items:Array Value) (n:Nat) (dd:Option Addr) (sl:Array (Option Value)) (u:Tok) :
  Meets (Builtin.«tuple.__mul__» ⟨[.ref l,.int 1 u],[]⟩) (fun _ R s=>s.heap.get? l=some { cls:=.type "tuple",dict:=dd,data:=.seq items n,slots:=sl }/\R (.ok (.ret (Value.ref l))) s) :=
 .of_wp fun prog w A R s h=>by
  obtain ⟨hp,g,d,tk,os⟩:=s
  obtain ⟨hl,h⟩:=h
  have f1:=AutoSeq1.idx_int
  have f2:=AutoSeq1.sub_tuple_tuple
  wp_walk using wpAny_loadPart' hl
  exact ⟨_,rfl,h⟩
theorem qG (l:Addr) (items:Array Value) (n:Nat) (dd:Option Addr) (sl:Array (Option Value)) (u:Tok) (hne:items.isEmpty=false) :
  Meets (Builtin.«tuple.__mul__» ⟨[.ref l,.int 0 u],[]⟩) (fun _ R s=>s.heap.get? l=some { cls:=.type "tuple",dict:=dd,data:=.seq items n,slots:=sl }/\R (.ok (.ret (Value.ref s.heap.objs.size))) { s with heap:=s.heap.push { cls:=Value.type "tuple",data:=Data.seq #[] } }) :=
 .of_wp fun prog w A R s h=>by
  obtain ⟨hp,g,d,tk,os⟩:=s
  obtain ⟨hl,h⟩:=h
  have f1:=AutoSeq1.idx_int
  have f2:=AutoSeq1.sub_tuple_tuple
  wp_walk using wpAny_loadPart' hl
  exact ⟨_,rfl,h⟩
theorem oV (l:Addr) (items:Array Value) (n:Nat) (dd:Option Addr) (sl:Array (Option Value)) (u:Tok) (hne:items.isEmpty=true) :
  Meets (Builtin.«tuple.__mul__» ⟨[.ref l,.int 0 u],[]⟩) (fun _ R s=>s.heap.get? l=some { cls:=.type "tuple",dict:=dd,data:=.seq items n,slots:=sl }/\R (.ok (.ret (Value.ref l))) s) :=
 .of_wp fun prog w A R s h=>by
  obtain ⟨hp,g,d,tk,os⟩:=s
  obtain ⟨hl,h⟩:=h
  have f1:=AutoSeq1.idx_int
  have f2:=AutoSeq1.sub_tuple_tuple
  wp_walk using wpAny_loadPart' hl
  exact ⟨_,rfl,h⟩
def aF3 (K:PySem.W.Frag):R2:=fun x y H Q=>∃ a,∃ k:Nat,∃ xs,x=.ref a/\y=.int k/\SqT K H a xs/\k<=1000/\xs.length<=1000/\∀ p H',aE H H'->SqT K H' p (List.replicate k xs).flatten->Q (.ref p) H'
theorem aDy {X:Cx} {K:PySem.W.Frag} (hK:X.K=K):OpR X (binaryOp .Mult) (aF3 K):=by
 intro pins s σ H x y v u Q I rx ry h
 obtain ⟨a,k,xs,rfl,rfl,ha,h2,hz,q⟩:=h
 by_cases h1:1 < k
 ·exact aDk hK pins s σ H _ _ v u Q I rx ry ⟨a,k,xs,rfl,rfl,ha,by omega,by omega,hz,q⟩
 subst hK
 cases rx
 obtain ⟨t,rfl⟩:=ry
 obtain ⟨its,r,⟨⟨cls,dd,data,sl⟩,ho,hc,n,hd⟩,hzz⟩:=I.tuple ha
 simp only at hc hd
 subst hc hd
 refine wpAny_binaryOp_repeat_ref (T := "tuple") (U := "int") (by decide) ⟨_,ho,rfl⟩ (fun s'=>typeIs_int s' k t) jZ PySem.F.fills_int_mul PySem.F.slot_int_rmul mR PySem.F.slot_int_index.lookup
  (call_meets PySem.F.slot_int_rmul (typeIs_int s k t) PySem.F.entry_int_rmul (PySem.F.args_int_rmul_2 _ _) (lC k t a its.toArray n dd sl) ⟨ho,rfl,⟨_,ho,rfl⟩,?_⟩)
 rcases (show k=0∨k=1 by omega) with rfl | rfl
 ·by_cases hx:its = []
  ·subst hx
   cases r
   refine call_meets PySem.F.slot_tuple_mul ⟨_,ho,rfl⟩ PySem.F.entry_tuple_mul (PySem.F.args_tuple_mul_2 _ _) (oV a _ n dd sl t rfl) ⟨ho,?_⟩
   exact ⟨.ref a,H,I,rfl,q a H (aE.refl H) ha⟩
  ·have hne:its.toArray.isEmpty=false:=by
    cases its with
    | nil=>exact absurd rfl hx
    | cons _ _=>rfl
   refine call_meets PySem.F.slot_tuple_mul ⟨_,ho,rfl⟩ PySem.F.entry_tuple_mul (PySem.F.args_tuple_mul_2 _ _) (qG a its.toArray n dd sl t hne) ⟨ho,?_⟩
   refine ⟨.ref _,_,I.laid (t':=s.toks) (o:=.tup []) (fun b ob q=>Qc _ q) (Qk _) ?_,rfl,q _ _ (aE.new (I.hok.fresh (Qk _))) (SqT.of aB)⟩
   exact ⟨Jj _,[],0,.nil,Qq _ rfl⟩
 ·refine call_meets PySem.F.slot_tuple_mul ⟨_,ho,rfl⟩ PySem.F.entry_tuple_mul (PySem.F.args_tuple_mul_2 _ _) (sP a its.toArray n dd sl t) ⟨ho,?_⟩
  exact ⟨.ref a,H,I,rfl,q a H (aE.refl H) (by simpa using ha)⟩
abbrev aEl (h:Heap) (T:Addr) (a b c:Value):Prop:=h.get? T=some { cls:=.type "tuple",data:=.seq #[a,b,c] }
structure Zip3Apart (z TI TO i1 i2 i3 l1 l2 l3:Addr):Prop where
 TIz:TI≠z
 TOz:TO≠z
 i1z:i1≠z
 i2z:i2≠z
 i3z:i3≠z
 TITO:TI≠TO
 TIi1:TI≠i1
 TIi2:TI≠i2
 TIi3:TI≠i3
 TOi1:TO≠i1
 TOi2:TO≠i2
 TOi3:TO≠i3
 i12:i1≠i2
 i13:i1≠i3
 i23:i2≠i3
 l1:∀ c∈[z,TO,i1,i2,i3],l1≠c
 l2:∀ c∈[z,TO,i1,i2,i3],l2≠c
 l3:∀ c∈[z,TO,i1,i2,i3],l3≠c
section
variable {prog:Program} {w:World} {A:Around} {E:Value->Shared->Prop} {s:Shared} {z TI TO i1 i2 i3 l1 l2 l3:Addr} {n n2 n3:Nat} {P1 P2 P3:Nat->Value->Prop} {st1 st2 st3:Nat->Heap->Prop}
end
section
variable (k1 k2 k3:Sk) (h:Heap) (a b d:Addr)
end
section
variable {X:Cx} {es:List Expr} {x1:Nat} {tpos:Pos}
end
section
variable {K:PySem.W.Frag} {own:Nat} {fr:List Nat} {g:TG} {te:TE} {σ:St} {H:Hp} {Qf:Hp->List V->Prop}
end
section
variable {X:Cx} {K:PySem.W.Frag}
end
section
variable {X:Cx} {scope:Scope} {own frn:List Str} {fr:List Nat} {kx vx tg iter:Expr} {ifs:List Expr} {pos:Pos} {wi:TI} {g:TG} {tt:TT} {tk tv:TE}
theorem Inv.trackD {pins:List (Addr×Obj)} {σ:St} {H:Hp} {s:Shared} {D:Addr} {ys:List (Key×V)} {its:List (Key×Value)} (I:Inv X pins σ H s) (hD:s.heap.DictOf (bC X.prog X.w) D its) (hv:KV ys its) (hz:ys.length<=sizeLine) (hm:(D==sysModules)=false) (hn:H D=none) (hL:D≠X.env.locals)
  (h1:X.s₀.heap.objs.size<=D) (h2:∀ x c,X.env.cells.lookup x=some c->c≠D) (h3:∀ p∈X.pn++pins,p.1≠D):Inv X pins σ (upd H D (.dK ys)) s:=by
 have ne:∀ b u,H b=some u->b≠D:=fun b u e z=>by rw [z,hn] at e; cases e
 refine I.step (g':=s.gens) (d':=s.drawn) (t':=s.toks) (h':=s.heap) (ch:=[D]) (fun b hb=>?_) (fun b o _ _ _ e _=>e) (fun b o _ _ _ e _=>⟨o.slots,e⟩) (fun b o hc _ n=>?_) (fun b o _ e=>⟨o,e⟩)
  (fun b xs e=>by rw [aG (ne b _ e)]; exact e) (fun b o u e=>by rw [aG (ne b _ e)]; exact e) (fun b ps e=>⟨#[],by rw [aG (ne b _ e),e]; simp⟩) (fun _ h=>h) (fun b u e=>?_) I.bare
 ·have e:b=D:=by simpa using hb
  subst e
  exact ⟨.inr h1,hL,h2,h3⟩
 ·rw [aG (by simpa using hc)]; exact n
 ·by_cases hb:b=D
  ·subst hb
   rw [aB] at e; cases e
   exact ⟨hz,hm,its,hv,hD⟩
  ·rw [aG hb] at e
   exact (I.hok b u e).stay (fun c v _ q=>q) (fun c q=>by rw [aG (ne c _ q)]; exact q) fun c xs q=>by rw [aG (ne c _ q)]; exact q
end
def tUp (t:TE):TE:=fun σ H Q=>∃ P:V->Hp->Prop,t σ H P/\∀ x H1,P x H1->Q x H1
def aE2 (H0:Hp) (t:TE):TE:=fun σ H Q=>t σ H fun x H'=>∃ a o kvs,H' a=some (.frz o (.dK kvs))/\NF H0 a/\Q x (upd H' a (.dK kvs))
def aE3 (own:Nat) (fr:List Nat) (td:TE) (g:TG) (tt:TT) (te:TE):TE:=fun σ H Q=>td σ H fun x H1=>∃ a kvs,x=.ref a/\H1 a=some (.dK kvs)/\∀ o:Obj,∃ W:Nat->Nat->List V->St->Hp->Prop,(∃ m,W 0 m [] (blk own fr σ) (upd H1 a (.frz o (.dK kvs))))/\∀ i m ys σ' H,W i m ys σ' H ->
 ((Itd a o kvs).stop i H/\∀ p,H p=none->Q (.ref p) (upd (upd H p (.lst ys)) a (.dK kvs))) ∨
 ((Itd a o kvs).go i H/\∃ N:List V->St->Hp->Prop,(∀ ys' σ2 H2,N ys' σ2 H2->∃ m',m' < m/\W (i+1) m' ys' σ2 H2) /\
  ∀ x H',(Itd a o kvs).yld i H x H'->g x σ' H' fun σ2 H2=>tt σ2 H2 fun b H3=>if b=true then te σ2 H3 fun y H4=>ys.length < sizeLine/\N (ys++[y]) σ2 H4 else N ys σ2 H3)
section
variable {X:Cx} {scope:Scope} {own frn:List Str} {fr:List Nat} {e elt tg d:Expr} {ifs:List Expr} {pos:Pos} {t td:TE} {g:TG} {tt:TT} {te:TE}
theorem aF4 (h:PE X e t):PE X e (tUp t):=by
 intro pins s σ H Q I q
 obtain ⟨P,h1,h2⟩:=q
 refine thn (h pins s σ H P I h1) fun v s1 hx=>?_
 obtain ⟨x,H1,I1,r1,q1⟩:=hx
 exact ⟨x,H1,I1,r1,h2 _ _ q1⟩
theorem aDz (h:PE X e t):PE X e (aE2 X.H₀ t):=by
 intro pins s σ H Q I q
 refine thn (h pins s σ H _ I q) fun v s1 hx=>?_
 obtain ⟨x,H1,I1,r1,a,o,kvs,ea,nf,k⟩:=hx
 exact ⟨x,_,I1.thaw ea nf,r1,k⟩
theorem aB7 (S:CompOk X scope own fr frn) (hc:X.calm=true) (hi:PE X d td) (hg:∀ C s0 H0 fp,PG (aP X scope (own++frn) C s0 H0 fp) tg g) (ht:∀ C s0 H0 fp,PF (aP X scope (own++frn) C s0 H0 fp) ifs tt)
  (he:∀ C s0 H0 fp,PE (aP X scope (own++frn) C s0 H0 fp) elt te) (hs:∀ x,foldedSetIterable d X.env x=pure x:=by intro _; rfl) :
  PE X (.ListComp elt [⟨tg,d,ifs,0⟩] scope pos) (aE3 own.length fr td g tt te):=by
 intro pins s σ H Q I h
 refine aDz (cO S hc (oZ (aF4 hi)) hg ht he hs) pins s σ H Q I ⟨_,h,fun x H1 q=>?_⟩
 obtain ⟨a,kvs,ex,hx,k⟩:=q
 refine ⟨a,kvs,ex,hx,fun o nf=>?_⟩
 obtain ⟨W,w0,wk⟩:=k o
 refine ⟨W,w0,fun i m ys σ' H' w=>?_⟩
 rcases wk i m ys σ' H' w with ⟨st,q⟩ | z
 ·refine .inl ⟨st,fun p hp=>⟨a,o,kvs,?_,nf,q p hp⟩⟩
  rw [aG (fun z=>by rw [<- z,st.1] at hp; cases hp)]
  exact st.1
 ·exact .inr z
end
theorem aAU {a:Addr} {o:Obj} {kvs:List (Key×V)} {own:Nat} {fr:List Nat} {g:TG} {tt:TT} {te:TE} {σ:St} {H:Hp} {Q:Hp->List V->Prop} (SH:St->Prop) (Pv:Nat->List V->Hp->Prop) (hn:kvs.length<=sizeLine) (hσ:SH (blk own fr σ)) (h0:Pv 0 [] H) (hlen:∀ i ys H,Pv i ys H->ys.length<=i) (hl:∀ i ys H,Pv i ys H->H a=some (.frz o (.dK kvs)))
  (hs:∀ i ys σ p H,kvs[i]?=some p->SH σ->Pv i ys H->ys.length < sizeLine->g (kV p.1) σ H fun σ2 H2=>tt σ2 H2 fun b H3=>if b=true then te σ2 H3 fun y H4=>ys.length < sizeLine/\SH σ2/\Pv (i+1) (ys++[y]) H4 else SH σ2/\Pv (i+1) ys H3)
  (hd:∀ ys H,Pv kvs.length ys H->Q H ys) :
  ∃ W:Nat->Nat->List V->St->Hp->Prop,(∃ m,W 0 m [] (blk own fr σ) H)/\∀ i m ys σ' H,W i m ys σ' H ->
   ((Itd a o kvs).stop i H/\Q H ys) ∨
   ((Itd a o kvs).go i H/\∃ N:List V->St->Hp->Prop,(∀ ys' σ2 H2,N ys' σ2 H2->∃ m',m' < m/\W (i+1) m' ys' σ2 H2) /\
    ∀ x H',(Itd a o kvs).yld i H x H'->g x σ' H' fun σ2 H2=>tt σ2 H2 fun b H3=>if b=true then te σ2 H3 fun y H4=>ys.length < sizeLine/\N (ys++[y]) σ2 H4 else N ys σ2 H3):=by
 refine lM kvs.length hn SH Pv hσ h0 hlen (fun ys H p=>⟨hl _ _ _ p,rfl⟩) (fun i ys H hi p=>⟨hl _ _ _ p,hi⟩) (fun i ys σ x H H' hi sh p y hz=>?_) hd
 obtain ⟨rfl,v,hv,rfl⟩:=y
 exact hs i ys σ v _ hv sh p hz
section
variable {X:Cx}
theorem aB8:aFy X (fun x y H Q=>∃ p xs i v,x=.ref p/\y=.int i/\SqL X.K H p xs/\0<=i/\xs[i.toNat]?=some v/\Q v H):=by
 intro pins s σ H o i ov iv Q I ro ri h
 obtain ⟨p,xs,k,z,rfl,rfl,hq,h0,he,q⟩:=h
 cases ro
 obtain ⟨t,rfl⟩:=ri
 obtain ⟨its,r,pl,hz⟩:=I.list hq
 obtain ⟨w,ew,rw'⟩:=r.get he
 have hlt:k.toNat < xs.length:=(Qd.mp he).1
 have hsz:sizeLine < 2^62:=by rw [sizeLine_eq]; decide
 exact wpAny_getItem_list (Q:=EP X pins σ Q) pl.isList h0 (by omega) (by simpa using ew) ⟨z,H,I,rw',q⟩
theorem uI:fY X (.type "range") (fun xs H Q=>∃ i j,xs = [.int i,.int j]/\∀ p,H p=none->Q (.ref p) (upd H p (.rng i j))):=by
 intro pins s σ H xs us Q I r h
 obtain ⟨i,j,rfl,q⟩:=h
 obtain ⟨u,u2,rfl,⟨t,rfl⟩,⟨t2,rfl⟩⟩:=mL r
 refine call_range_2 ⟨.ref s.heap.objs.size,_,I.laid (fun b o e=>Qc _ e) (Qk _) ?_,rfl,q _ (I.hok.fresh (Qk _))⟩
 exact ⟨_,_,_,Qq _ rfl⟩
def qH (i:Int) (n:Nat):List Int:=(List.range n).map fun (j:Nat)=>i+(j:Int)
theorem qI {K:PySem.W.Frag} (hK:X.K=K) (hc:X.calm=true):fY X (.builtin "max") (fun xs H Q=>∃ (p:Addr) (ns:List Int),xs = [.ref p]/\SqL K H p (ns.map V.int)/\0 < ns.length/\∀ M,M∈ns->(∀ a∈ns,a<=M)->Q (.int M) H):=by
 subst hK
 intro pins s σ H xs us Q I r h
 obtain ⟨p,ns,rfl,hx,hne,q⟩:=h
 obtain ⟨u,rfl,rx⟩:=jJ r
 cases rx
 obtain ⟨its,rv,pl,hz⟩:=I.list hx
 have hi:IntsAre its ns:=kG rv
 obtain ⟨xs,e⟩:=hi.allInts.items
 have hns:ns=xs.toList.map (·.1):=by
  rw [<- hi.numsOf,<- nums_intItems,<- e]
 have hsz:0 < xs.size:=by
  have h3:=hne; rw [hns,Qa,Array.length_toList] at h3; exact h3
 have hl:=pl.isList
 rw [e] at hl
 refine max_intList (I.ok.hd hc) hl hsz fun v h' tk hv hk=>?_
 obtain ⟨t,rfl⟩:=intItems_at hv
 obtain ⟨h1,h2⟩:=argBest_gt (numAt xs) (xs.size - 1)
 refine ⟨.int _,H,I.kept hk,⟨_,rfl⟩,q _ ?_ fun a ha=>?_⟩
 ·rw [hns,numAt_eq]; exact getD_mem (by rw [Qa,Array.length_toList]; omega)
 ·rw [hns] at ha
  obtain ⟨j,hj,rfl⟩:=mem_getD ha
  rw [Qa,Array.length_toList] at hj
  rw [<- numAt_eq]; exact h2 j (by omega)
end
section
variable {P:Program} {w:World} {A:Around} {E:Value->Shared->Prop} {s:Shared} {it d:Addr} {i ep:Nat} {es:Array DictEntry} {ob:Obj}
end
section
variable {X:Cx} {pins:List (Addr×Obj)} {σ:St} {H:Hp} {s:Shared} {a:Addr}
end
theorem KT.length {H:Hp} {kvs:List (List Key×V)} {xs:List (List Key×Addr×Value)} (r:KT H kvs xs):kvs.length=xs.length:=by
 induction r with
 | nil=>rfl
 | cons _ _ ih=>rw [Jl,Jl,ih]
theorem KT.at {H:Hp} {kvs:List (List Key×V)} {xs:List (List Key×Addr×Value)} (r:KT H kvs xs):∀ {i:Nat} {p:List Key×V} {x:List Key×Addr×Value},kvs[i]?=some p->xs[i]?=some x->p.1=x.1/\H x.2.1=some (.tup (p.1.map kV)):=by
 induction r with
 | nil=>intro i p x h; simp at h
 | cons h1 _ ih =>
  intro i p x hp hx
  cases i with
  | zero =>
   simp only [Wn,Option.some.injEq] at hp hx
   subst hp hx
   exact ⟨h1.1,h1.2.1⟩
  | succ j =>
   simp only [Wo] at hp hx
   exact ih hp hx
section
variable {X:Cx} {tg:Expr}
end
section
variable {X:Cx} {pos:Pos} {ek ev:Expr} {tk tv:TE}
end
abbrev KE:=List Key×Addr×V
def kvE (e:KE):List Key×V:=(e.1,e.2.2)
def Kp (ys:List KE) (H:Hp):Prop:=∀ e∈ys,H e.2.1=some (.tup (e.1.map kV))
def KY (ys:List KE) (its:List (List Key×Addr×Value)):Prop:=Paired (fun (p:KE) (q:List Key×Addr×Value)=>p.1=q.1/\p.2.1=q.2.1/\bD p.2.2 q.2.2) ys its
def DH (P:Program) (w:World) (h:Heap) (D:Addr) (its:List (List Key×Addr×Value)):Prop:=∃ o es ep,h.get? D=some o/\o.ExactDict/\o.data=.dict es ep/\es.toList=its.map (entryOfKey (tupleKind (bC P w)))/\(its.map (·.1)).Nodup
theorem Kp.wr {ys:List KE} {H:Hp} {D:Addr} {o:HO} (h:Kp ys H) (n:H D=none):Kp ys (upd H D o):=fun e he=>by
 rw [aG (fun z=>by have q:=h e he; rw [z,n] at q; cases q)]
 exact h e he
theorem KY.length {ys:List KE} {its:List (List Key×Addr×Value)} (r:KY ys its):ys.length=its.length:=by
 induction r with
 | nil=>rfl
 | cons _ _ ih=>rw [Jl,Jl,ih]
theorem KY.kt {ys:List KE} {its:List (List Key×Addr×Value)} {H:Hp} (r:KY ys its):Kp ys H->KT H (ys.map kvE) its:=by
 induction r with
 | nil=>intro _; exact .nil
 | cons h1 _ ih=>intro hp; exact .cons ⟨h1.1,by rw [<- h1.2.1]; exact hp _ (Qg ..),h1.2.2⟩ (ih fun e he=>hp e (Ql _ he))
theorem KY.snoc {ys:List KE} {its:List (List Key×Addr×Value)} {k:List Key} {b:Addr} {y:V} {v:Value} (r:KY ys its) (h:bD y v):KY (ys++[(k,b,y)]) (its++[(k,b,v)]):=by
 induction r with
 | nil=>exact .cons ⟨rfl,rfl,h⟩ .nil
 | cons h1 _ ih=>exact .cons h1 ih
theorem KY.keys {ys:List KE} {its:List (List Key×Addr×Value)} (r:KY ys its):ys.map (·.1)=its.map (·.1):=by
 induction r with
 | nil=>rfl
 | cons h1 _ ih=>rw [Jg,Jg,ih,h1.1]
theorem DH.at {P:Program} {w:World} {h h':Heap} {D:Addr} {its:List (List Key×Addr×Value)} (d:DH P w h D its) (k:∀ o,h.get? D=some o->h'.get? D=some o):DH P w h' D its:=let ⟨o,es,ep,h1,r⟩:=d; ⟨o,es,ep,k _ h1,r⟩
theorem DH.of {P:Program} {w:World} {h:Heap} {D:Addr} {its:List (List Key×Addr×Value)} (d:h.DictOfH (tupleKind (bC P w)) D its):DH P w h D its:=let ⟨o,es,ep,h1,h2,h3,h4,_,h5⟩:=d; ⟨o,es,ep,h1,h2,h3,h4,h5⟩
section
variable {X:Cx} {scope:Scope} {own frn:List Str} {fr:List Nat} {kx vx tg iter:Expr} {ifs:List Expr} {pos:Pos} {wi:TI} {g:TG} {tt:TT} {tk tv:TE}
end
section
variable {X:Cx} {scope:Scope} {own frn:List Str} {fr:List Nat} {e elt kx vx tg d:Expr} {ifs:List Expr} {pos:Pos} {t td:TE} {g:TG} {tt:TT} {te tk tv:TE}
end
section
variable {P:Program} {w:World} {A:Around} {E:Value->Shared->Prop} {s:Shared} {it d v:Addr} {i ep:Nat} {es:Array DictEntry} {ob:Obj}
end
theorem KT.vals {H:Hp} {kvs:List (List Key×V)} {xs:List (List Key×Addr×Value)} (r:KT H kvs xs):∀ {i:Nat} {p:List Key×V} {x:List Key×Addr×Value},kvs[i]?=some p->xs[i]?=some x->bD p.2 x.2.2:=by
 induction r with
 | nil=>intro i p x h; simp at h
 | cons h1 _ ih =>
  intro i p x hp hx
  cases i with
  | zero =>
   simp only [Wn,Option.some.injEq] at hp hx
   subst hp hx
   exact h1.2.2
  | succ j =>
   simp only [Wo] at hp hx
   exact ih hp hx
section
variable {X:Cx} {o:Expr} {to:TE} {p apos cpos pos:Pos}
end
structure KsU (ks:List (Int×Tok)) (ns:List Int):Prop where
 nd:(ks.map (·.1)).Nodup
 mem:∀ k,k∈ks.map (·.1)↔k∈ns
theorem KsU.old {ks:List (Int×Tok)} {ns:List Int} {k:Int} (h:KsU ks ns) (q:∃ p∈ks,p.1=k):KsU ks (ns++[k]):=⟨h.nd,fun x=>by
 rw [h.mem,Jm,Qo]
 refine ⟨.inl,fun z=>?_⟩
 rcases z with z | z
 ·exact z
 ·obtain ⟨p,hp,e⟩:=q
  rw [z,<- e]
  exact (h.mem _).mp (Jd.mpr ⟨p,hp,rfl⟩)⟩
theorem KsU.new {ks:List (Int×Tok)} {ns:List Int} {k:Int} {t:Tok} (h:KsU ks ns) (q:∀ p∈ks,p.1≠k):KsU ((k,t)::ks) (ns++[k]):=⟨by
 rw [Jg]
 refine Xa.mpr ⟨fun m=>?_,h.nd⟩
 obtain ⟨p,hp,e⟩:=Jd.mp m
 exact q p hp e,fun x=>by
 rw [Jg,Qp,h.mem,Jm,Qo]
 exact Or.comm⟩
section
variable {prog:Program} {w:World} {A:Around} {E:Value->Shared->Prop} {s:Shared} {L:Bool} {a:Addr}
end
section
variable {X:Cx} {scope:Scope} {own frn:List Str} {fr:List Nat} {elt tg iter:Expr} {ifs:List Expr} {pos:Pos} {wi:TI} {g:TG} {tt:TT} {te:TE}
end
section
variable {X:Cx} {scope:Scope} {own frn:List Str} {fr:List Nat} {elt tg d:Expr} {ifs:List Expr} {pos:Pos} {td:TE} {g:TG} {tt:TT} {te:TE}
end
section
variable {X:Cx} {K:PySem.W.Frag}
end
section
variable {X:Cx}
end
section
variable {X:Cx} {K:PySem.W.Frag}
end
section
variable {X:Cx}
end
theorem yH:typeLookup (.type "zip") "__len__" = pure none:=by rw [typeLookup_type,builtinLookup_eq_fast]; kernel_rfl
theorem wM:typeLookup (.type "zip") "__length_hint__" = pure none:=by rw [typeLookup_type,builtinLookup_eq_fast]; kernel_rfl
structure ZSt (k1 k2:Sk) (z TI TO i1 i2 l1 l2:Addr) (i:Nat) (h:Heap):Prop where
 zp:∃ f0 f1,F0 f0/\gA h z TI TO f0 f1
 ti:IsPair h TI (.ref i1) (.ref i2)
 to:∃ x y,IsPair h TO x y
 a1:ItK k1 h i1 l1 i
 a2:ItK k2 h i2 l2 i
theorem ZSt.keep {k1 k2:Sk} {z TI TO i1 i2 l1 l2:Addr} {i:Nat} {h h':Heap} (st:ZSt k1 k2 z TI TO i1 i2 l1 l2 i h) (k:∀ c∈[z,TI,TO,i1,i2],∀ o,h.get? c=some o->h'.get? c=some o):ZSt k1 k2 z TI TO i1 i2 l1 l2 i h':=by
 obtain ⟨⟨f0,f1,hf,hz⟩,hTI,⟨x,y,hTO⟩,h1,h2⟩:=st
 exact ⟨⟨f0,f1,hf,k z (by simp) _ hz⟩,k TI (by simp) _ hTI,⟨x,y,k TO (by simp) _ hTO⟩,h1.at fun o e=>k i1 (by simp) o e,h2.at fun o e=>k i2 (by simp) o e⟩
theorem ZSt.lt {k1 k2:Sk} {z TI TO i1 i2 l1 l2:Addr} {i:Nat} {h:Heap} (st:ZSt k1 k2 z TI TO i1 i2 l1 l2 i h):∀ c∈[z,TI,TO,i1,i2],c < h.objs.size:=by
 intro c hc
 obtain ⟨⟨f0,f1,hf,hz⟩,hTI,⟨x,y,hTO⟩,h1,h2⟩:=st
 simp only [Qp,Ja,or_false] at hc
 rcases hc with rfl | rfl | rfl | rfl | rfl
 ·exact Qm hz
 ·exact Qm hTI
 ·exact Qm hTO
 ·obtain ⟨o,e,_⟩:=h1.obj; exact Qm e
 ·obtain ⟨o,e,_⟩:=h2.obj; exact Qm e
def Prs (H:Hp) (xs ys zs:List V):Prop:=∀ (j:Nat) (z:V),zs[j]?=some z->∃ q x y,z=.ref q/\xs[j]?=some x/\ys[j]?=some y/\H q=some (.tup [x,y])
def wN (S:Addr) (H H':Hp):Prop:=∀ b o,b≠S->H b=some o->H' b=some o
theorem wN.sq {k:Sk} {K:PySem.W.Frag} {S l:Addr} {H H':Hp} {xs:List V} (e:wN S H H') (n:l≠S) (h:SqK k K H l xs):SqK k K H' l xs:=by
 cases k
 ·rcases h with (h | ⟨o,h⟩) | h
  ·exact .inl (.inl (e _ _ n h))
  ·exact .inl (.inr ⟨o,e _ _ n h⟩)
  ·exact .inr h
 ·rcases h with (h | ⟨o,h⟩) | h
  ·exact .inl (.inl (e _ _ n h))
  ·exact .inl (.inr ⟨o,e _ _ n h⟩)
  ·exact .inr h
theorem Prs.keep {S:Addr} {H H':Hp} {xs ys zs ws:List V} (h:Prs H xs ys zs) (hS:H S=some (.lst ws)) (e:wN S H H'):Prs H' xs ys zs:=fun j z hz=>by
 obtain ⟨q,x,y,h1,h2,h3,h4⟩:=h j z hz
 exact ⟨q,x,y,h1,h2,h3,e _ _ (fun c=>by rw [c,hS] at h4; cases h4) h4⟩
section
variable {X:Cx} {pins:List (Addr×Obj)} {σ:St}
theorem sS (hc:X.calm=true) (A:Around) (hA:A.handled=none) {k1 k2:Sk} {z TI TO i1 i2 l1 l2 S:Addr} {res:Value} {R:Result->Shared->Prop} {xs ys:List V} (DD:ZipApart z TI TO i1 i2 l1 l2) (nS:S∉[z,TI,TO,i1,i2]) (n1:l1≠S) (n2:l2≠S) (n:Nat) (hn:n=min xs.length ys.length) (hz:n<=sizeLine) :
  ∀ (k i:Nat) (s:Shared) (H:Hp) (zs:List V),n - i=k->i<=n->Inv X pins σ H s->(∀ c∈[z,TI,TO,i1,i2],gU X pins H c)->ZSt k1 k2 z TI TO i1 i2 l1 l2 i s.heap->SqK k1 X.K H l1 xs->SqK k2 X.K H l2 ys->H S=some (.lst zs)->zs.length=i->Prs H xs ys zs ->
  (∀ s' H' zs',Inv X pins σ H' s'->wN S H H'->H' S=some (.lst zs')->zs'.length=n->Prs H' xs ys zs'->R (.ok (.ret res)) s') ->
  codeAny (model X.prog X.w) A (.builtin "list.extend.loop" ⟨[.ref S,.ref z,res],[]⟩) R s:=by
 intro k
 induction k with
 | zero =>
  intro i s H zs hk hi I hf st ha hb hS hl hp hR
  have hin:i=n:=by omega
  subst hin
  obtain ⟨⟨f0,f1,hf0,hz0⟩,hTI,⟨x0,y0,hTO⟩,h1,h2⟩:=st
  obtain ⟨its,rv,pa⟩:=I.seqK ha
  obtain ⟨jts,rw',pb⟩:=I.seqK hb
  have la:=rv.length
  have lb:=rw'.length
  have hT:s.TypeIs (.ref z) "zip" := ⟨_,hz0,rfl⟩
  refine codeAny_builtin F.entry_extend_loop ?_
  rw [Around.under_plainId F.plain_extend_loop _]
  show wpAny _ A.in1 (pyNext (.ref z) >>= _) _ _ s
  refine wpAny_bind ?_
  unfold pyNext
  refine wpAny_bind (wpAny_attempt (wpAny_callSpecial?_slot (name:=Str.ofString "__next__") hT PySem.F.slot_zip_next (wpAny_call_entry PySem.F.slot_zip_next hT PySem.F.entry_zip_next
   (aDx (A:=_) hA DD (aAK k1 X.prog X.w i1 l1 its.toArray (Ne.symm DD.l1i1).symm) (aAK k2 X.prog X.w i2 l2 jts.toArray DD.l2i2) hz0 hf0 hTI hTO ⟨h1,pa⟩ ⟨h2,pb⟩ (by rw [Qs,Qs]; omega) fun h' e kp he=>?_) (PySem.F.args_zip_next_1 _))))
  obtain ⟨oe,hoe,hce⟩:=he
  refine wpAny_bind (wpAny_isInstance (T := "StopIteration") (b:=true) ⟨oe,hoe,hce⟩ isSubtype_stop (wpAny_pure ?_))
  refine wpAny_pure (hR _ H zs ?_ (fun _ _ _ e=>e) hS hl hp)
  refine I.turnedL (t':=s.toks) [z,TO,i1,i2] (fun c o hc' e=>?_) (fun c hc'=>hf c ?_)
  ·simp only [Qp,Ja,or_false,not_or] at hc'
   exact kp c o hc'.1 hc'.2.1 hc'.2.2.1 hc'.2.2.2 e
  ·simp only [Qp,Ja,or_false] at hc' ⊢
   rcases hc' with r | r | r | r
   ·exact .inl r
   ·exact .inr (.inr (.inl r))
   ·exact .inr (.inr (.inr (.inl r)))
   ·exact .inr (.inr (.inr (.inr r)))
 | succ k ih =>
  intro i s H zs hk hi I hf st ha hb hS hl hp hR
  have hlt:i < n:=by omega
  have hlts:=st.lt
  obtain ⟨⟨f0,f1,hf0,hz0⟩,hTI,⟨x0,y0,hTO⟩,h1,h2⟩:=st
  have hi1:i < xs.length:=by omega
  have hi2:i < ys.length:=by omega
  have hx:xs[i]?=some xs[i]:=Qb hi1
  have hy:ys[i]?=some ys[i]:=Qb hi2
  generalize xs[i]=x at hx
  generalize ys[i]=y at hy
  obtain ⟨its,rv,pa⟩:=I.seqK ha
  obtain ⟨jts,rw',pb⟩:=I.seqK hb
  obtain ⟨u,hu,ru⟩:=rv.get hx
  obtain ⟨v,hv,rv2⟩:=rw'.get hy
  have hT:s.TypeIs (.ref z) "zip" := ⟨_,hz0,rfl⟩
  have hs1:i < its.toArray.size:=by rw [Qs]; exact (Qd.mp hu).1
  have hs2:i < jts.toArray.size:=by rw [Qs]; exact (Qd.mp hv).1
  refine codeAny_builtin F.entry_extend_loop ?_
  rw [Around.under_plainId F.plain_extend_loop _]
  show wpAny _ A.in1 (pyNext (.ref z) >>= _) _ _ s
  refine wpAny_bind ?_
  unfold pyNext
  refine wpAny_bind (wpAny_attempt (wpAny_callSpecial?_slot (name:=Str.ofString "__next__") hT PySem.F.slot_zip_next (wpAny_call_entry PySem.F.slot_zip_next hT PySem.F.entry_zip_next
   (aB6 DD (aAK k1 X.prog X.w i1 l1 its.toArray DD.l1i1) (aAK k2 X.prog X.w i2 l2 jts.toArray DD.l2i2) hz0 hf0 hTI hTO ⟨h1,pa⟩ ⟨h2,pb⟩ hs1 hs2 fun h' u' v' g0 g1 pu pv hg0 hz' hTO' s1 s2 hT' hsz kp=>wpAny_pure ?_) (PySem.F.args_zip_next_1 _))))
  have eu:u'=u:=by
   have q:its[i]?=some u':=by simpa using pu
   rw [hu] at q
   exact (Option.some.inj q).symm
  have ev:v'=v:=by
   have q:jts[i]?=some v':=by simpa using pv
   rw [hv] at q
   exact (Option.some.inj q).symm
  subst eu ev
  have hf0':=I.hok.fresh (Qk s.heap.objs.size)
  have fz:=I.fpOk (Qk s.heap.objs.size) hf0'
  have I2:Inv X pins σ H { s with heap:=h' }:=by
   refine I.turnedL (t':=s.toks) [z,TO,i1,i2] (fun c o hc' e=>?_) (fun c hc'=>hf c ?_)
   ·simp only [Qp,Ja,or_false,not_or] at hc'
    exact kp c o hc'.1 hc'.2.1 hc'.2.2.1 hc'.2.2.2 e
   ·simp only [Qp,Ja,or_false] at hc' ⊢
    rcases hc' with r | r | r | r
    ·exact .inl r
    ·exact .inr (.inr (.inl r))
    ·exact .inr (.inr (.inr (.inl r)))
    ·exact .inr (.inr (.inr (.inr r)))
  have I3:Inv X pins σ (upd H s.heap.objs.size (.tup [x,y])) { s with heap:=h' }:=by
   refine I2.trackO (show bW X.prog X.w _ _ _ (.tup [x,y]) from ⟨by show 2<=sizeLine; rw [sizeLine_eq]; decide,[u',v'],0,.cons ru (.cons rv2 .nil),hT'⟩) hf0' fz.2.1 I.sz fz.2.2.2.2.1 fz.2.2.2.2.2
  have e3:∀ b o,H b=some o->upd H s.heap.objs.size (.tup [x,y]) b=some o:=aE.new hf0'
  have qS:S≠s.heap.objs.size:=fun c=>by rw [c,hf0'] at hS; cases hS
  have t3:upd H s.heap.objs.size (.tup [x,y]) s.heap.objs.size=some (.tup [x,y]):=aB
  have hS3:=e3 _ _ hS
  have f3:∀ c∈[z,TI,TO,i1,i2],gU X pins (upd H s.heap.objs.size (.tup [x,y])) c:=fun c hc'=>⟨by rw [aG (Jq (hlts c hc'))]; exact (hf c hc').1,(hf c hc').2⟩
  generalize upd H s.heap.objs.size (.tup [x,y])=H3 at I3 e3 t3 hS3 f3
  obtain ⟨zz,kts,nn,r,hkl,e⟩:=I3.lstM hS3
  show wpAny _ A.in1 (updateSeq S (·.push (.ref s.heap.objs.size)) >>= _) _ _ _
  refine wpAny_bind ?_
  have I4:=I3.lset (t':=s.toks) (its':=kts++[.ref s.heap.objs.size]) (f:=(·.push (.ref s.heap.objs.size))) (ys:=zs++[.ref s.heap.objs.size]) hS3 e (by simp) (r.append (.cons (show bD (.ref s.heap.objs.size) (.ref s.heap.objs.size) from rfl) .nil)) (by rw [Qr,Xd]; omega)
  have b4:wN S H (upd H3 S (.lst (zs++[.ref s.heap.objs.size]))):=fun b o nb q=>by rw [aG nb]; exact e3 _ _ q
  refine wpAny_updateSeq e rfl (wpAny_pure ⟨plainId_quiet F.plain_extend_loop _,ih (i+1) _ (upd H3 S (.lst (zs++[.ref s.heap.objs.size]))) (zs++[.ref s.heap.objs.size]) (by omega) hlt I4 (fun c hc'=>⟨by rw [aG (fun q:c=S=>nS (q ▸ hc'))]; exact (f3 c hc').1,(f3 c hc').2⟩) ?_ (b4.sq n1 ha) (b4.sq n2 hb) aB (by rw [Qr,Xd,hl]) ?_ fun s' H' zs' I' b' hS' hl' hp'=>hR s' H' zs' I' (fun b o nb q=>b' b o nb (b4 b o nb q)) hS' hl' hp'⟩)
   (by rw [Qs,<- hkl]; omega) (by show (kts.toArray.push _).size<=sizeLine+1; rw [Array.size_push,Qs,<- hkl]; omega)
  ·refine ZSt.keep (h:=h') ⟨⟨_,_,hg0,hz'⟩,kp _ _ DD.TIz DD.TITO DD.TIi1 DD.TIi2 hTI,hTO',s1.1,s2.1⟩ fun c hc' o q=>?_
   exact (Xl _ _ (fun q:S=c=>nS (q.symm ▸ hc'))).trans q
  ·intro j w hw
   by_cases hj:j < zs.length
   ·rw [Jc hj] at hw
    obtain ⟨q,x',y',g1,g2,g3,g4⟩:=hp j w hw
    exact ⟨q,x',y',g1,g2,g3,b4 _ _ (fun c=>by rw [c,hS] at g4; cases g4) g4⟩
   ·rw [Jh (by omega)] at hw
    have hj2:j - zs.length=0:=by
     have:=(Qd.mp hw).1
     rw [Xd] at this
     omega
    rw [hj2] at hw
    have ej:j=i:=by omega
    subst ej
    exact ⟨s.heap.objs.size,x,y,(Option.some.inj hw).symm,hx,hy,by rw [aG (Ne.symm qS)]; exact t3⟩
def aB9 (K:PySem.W.Frag) (k1 k2:Sk) (ta:TA):TE:=fun σ H Q=>ta σ H fun vs H1=>∃ a b xs ys,vs = [.ref a,.ref b]/\SqK k1 K H1 a xs/\SqK k2 K H1 b ys/\min xs.length ys.length<=sizeLine/\∀ p zs H2,aE H1 H2->H1 p=none->H2 p=some (.lst zs)->zs.length=min xs.length ys.length->Prs H2 xs ys zs->Q (.ref p) H2
theorem yI (k1 k2:Sk) {a b:Expr} {ta:TA} {p pos p2 pos2:Pos} (hc:X.calm=true) (hgl:Gl X "list") (hml:X.mg "list" = none) (hg:Gl X "zip") (hm:X.mg "zip" = none) (ha:PA X [a,b] ta) (hs:starEach [a,b] X.env = [(false,eval a X.env),(false,eval b X.env)]:=by rfl) (hs2:starEach [b] X.env = [(false,eval b X.env)]:=by rfl) :
  PE X (.Call (.Name "list" p2) [.Call (.Name "zip" p) [a,b] [] pos] [] pos2) (aB9 X.K k1 k2 ta):=by
 intro pins s σ H Q I h
 refine wpAny_Call_Name_kw (kF (u:=.type "list") I hgl hml (by decide +kernel) ?_ (by decide) (by decide))
 refine PyProof.Rows.callWith_type1 ?_ rfl rfl
 show wpAny _ _ (spliced ((false,eval (.Call (.Name "zip" p) [a,b] [] pos) X.env)::[])) _ _ s
 refine Calls.spliced_cons ?_
 refine Call_ (kF (u:=.type "zip") I hg hm (by decide +kernel) (PyProof.Rows.callWith_type1 (thn (ha pos pins s σ H _ I h) fun us s1 hx9=>?_) (by rw [hs,hs2]) (by rw [hs2]; rfl)))
 obtain ⟨vs,H1,I1,r1,q1⟩:=hx9
 obtain ⟨l1,l2,xs,ys,rfl,hA,hB,hmn,q⟩:=q1
 obtain ⟨u1,u2,rfl,r1',r2'⟩:=mL r1
 cases r1'
 cases r2'
 obtain ⟨its,rv,pa⟩:=I1.seqK hA
 obtain ⟨jts,rw',pb⟩:=I1.seqK hB
 refine callType_new PySem.F.called_zip (by decide) (PySem.F.typeCall_zip_2 _ _) (PySem.F.newCall_zip_2 _ _) (fun obj=>PySem.F.args_object_init_3 obj _ _) PySem.F.entry_zip_new (aBK k1 k2 l1 l2 its.toArray jts.toArray) ⟨pa,pb,?_⟩
 have n1:(zh1 k1 s1.heap l1).objs.size=s1.heap.objs.size+1:=Xf ..
 have n2:(zh2 k1 k2 s1.heap l1 l2).objs.size=s1.heap.objs.size+2:=by rw [Xf,n1]
 have n3:(zh3 k1 k2 s1.heap l1 l2).objs.size=s1.heap.objs.size+3:=by rw [Xf,n2]
 have n4:(zh4 k1 k2 s1.heap l1 l2).objs.size=s1.heap.objs.size+4:=by rw [Xf,n3]
 have n5:(zh5 k1 k2 s1.heap l1 l2).objs.size=s1.heap.objs.size+5:=by rw [Xf,n4]
 have g5:IsZip (zh5 k1 k2 s1.heap l1 l2) (zh4 k1 k2 s1.heap l1 l2).objs.size (zh2 k1 k2 s1.heap l1 l2).objs.size (zh3 k1 k2 s1.heap l1 l2).objs.size .none:=Qq _ rfl
 have g4:IsPair (zh5 k1 k2 s1.heap l1 l2) (zh3 k1 k2 s1.heap l1 l2).objs.size .none .none:=Qc _ (Qq _ rfl)
 have g3:IsPair (zh5 k1 k2 s1.heap l1 l2) (zh2 k1 k2 s1.heap l1 l2).objs.size (.ref s1.heap.objs.size) (.ref (zh1 k1 s1.heap l1).objs.size):=Qc _ (Qc _ (Qq _ rfl))
 have g2:ItK k2 (zh5 k1 k2 s1.heap l1 l2) (zh1 k1 s1.heap l1).objs.size l2 0:=(ItK.new k2 (zh1 k1 s1.heap l1) l2).at fun o e=>Qc _ (Qc _ (Qc _ e))
 have g1:ItK k1 (zh5 k1 k2 s1.heap l1 l2) s1.heap.objs.size l1 0:=(ItK.new k1 s1.heap l1).at fun o e=>Qc _ (Qc _ (Qc _ (Qc _ e)))
 have kp:∀ c o,s1.heap.get? c=some o->(zh5 k1 k2 s1.heap l1 l2).get? c=some o:=fun c o e=>Qc _ (Qc _ (Qc _ (Qc _ (Qc _ e))))
 refine ⟨⟨_,g5,rfl⟩,?_⟩
 refine Calls.spliced_nil ?_
 rw [n1,n2,n3,n4] at *
 have I2:Inv X pins σ H1 { s1 with heap:=zh5 k1 k2 s1.heap l1 l2 }:=I1.kept (t':=s1.toks) kp
 generalize zh5 k1 k2 s1.heap l1 l2=h5 at *
 have st:ZSt k1 k2 (s1.heap.objs.size+4) (s1.heap.objs.size+2) (s1.heap.objs.size+3) s1.heap.objs.size (s1.heap.objs.size+1) l1 l2 0 h5:=⟨⟨.none,false,.inl rfl,g5⟩,g3,⟨_,_,g4⟩,g1,g2⟩
 have hge:∀ c∈[s1.heap.objs.size+4,s1.heap.objs.size+2,s1.heap.objs.size+3,s1.heap.objs.size,s1.heap.objs.size+1],s1.heap.objs.size<=c/\c < s1.heap.objs.size+5:=fun c hc=>by
  simp only [Qp,Ja,or_false] at hc
  rcases hc with r | r | r | r | r <;> omega
 have hfp:∀ c∈[s1.heap.objs.size+4,s1.heap.objs.size+2,s1.heap.objs.size+3,s1.heap.objs.size,s1.heap.objs.size+1],gU X pins H1 c:=fun c hc=>I1.fpOk (hge c hc).1 (I1.hok.fresh (hge c hc).1)
 have DD:ZipApart (s1.heap.objs.size+4) (s1.heap.objs.size+2) (s1.heap.objs.size+3) s1.heap.objs.size (s1.heap.objs.size+1) l1 l2:=by
  have d:∀ i j:Nat,i≠j->s1.heap.objs.size+i≠s1.heap.objs.size+j:=fun i j h=>by omega
  have a1:∀ c∈[s1.heap.objs.size+4,s1.heap.objs.size+2,s1.heap.objs.size+3,s1.heap.objs.size,s1.heap.objs.size+1],l1≠c:=fun c hc'=>I1.seq_ne hA (hfp c hc')
  have a2:∀ c∈[s1.heap.objs.size+4,s1.heap.objs.size+2,s1.heap.objs.size+3,s1.heap.objs.size,s1.heap.objs.size+1],l2≠c:=fun c hc'=>I1.seq_ne hB (hfp c hc')
  exact ⟨d 2 4 (by decide),d 3 4 (by decide),d 0 4 (by decide),d 1 4 (by decide),d 2 3 (by decide),d 2 0 (by decide),d 2 1 (by decide),d 3 0 (by decide),d 3 1 (by decide),d 0 1 (by decide),
   a1 _ (by simp),a1 _ (by simp),a1 _ (by simp),a1 _ (by simp),a2 _ (by simp),a2 _ (by simp),a2 _ (by simp),a2 _ (by simp)⟩
 generalize hzz:s1.heap.objs.size+4=z at *
 generalize hTT:s1.heap.objs.size+2=TI at *
 generalize hTO':s1.heap.objs.size+3=TO at *
 generalize hi1':s1.heap.objs.size+1=i2 at *
 have hsz:∀ c∈[z,TI,TO,s1.heap.objs.size,i2],c < h5.objs.size:=st.lt
 generalize hs5:({ s1 with heap:=h5 }:Shared)=s5 at I2
 have e5:s5.heap=h5:=by rw [<- hs5]
 rw [<- e5] at st hsz g5
 have hT:s5.TypeIs (.ref z) "zip" := ⟨_,g5,rfl⟩
 refine callType_codes (Q₁:=fun obj s₁=>obj=.ref s5.heap.objs.size/\s₁={ s5 with heap:=s5.heap.push { cls:=.type "list",data:=.seq #[] } }) F.called_list (F.typeCall_list_1 _) F.entry_list_init
  (code_list_new _ ⟨rfl,rfl⟩) fun obj s₁ h₁=>?_
 obtain ⟨rfl,rfl⟩:=h₁
 have I6:=I2.lnew (t':=s5.toks) (ys:=[]) (its:=[]) .nil (Jj _)
 have hfr:=I2.fresh
 have hS6:upd H1 s5.heap.objs.size (.lst []) s5.heap.objs.size=some (.lst []):=aB
 have s6:aE H1 (upd H1 s5.heap.objs.size (.lst [])):=aE.new hfr
 have hfS:=I2.fpOk (H':=H1) (Qk s5.heap.objs.size) hfr
 have nl1:l1≠s5.heap.objs.size:=I2.seq_ne hA hfS
 have nl2:l2≠s5.heap.objs.size:=I2.seq_ne hB hfS
 have nS:s5.heap.objs.size∉[z,TI,TO,s1.heap.objs.size,i2]:=fun c=>Qu _ (hsz _ c)
 have hf6:∀ c∈[z,TI,TO,s1.heap.objs.size,i2],gU X pins (upd H1 s5.heap.objs.size (.lst [])) c:=fun c hc'=>⟨by rw [aG (Jq (hsz c hc'))]; exact (hfp c hc').1,(hfp c hc').2⟩
 have st6:ZSt k1 k2 z TI TO s1.heap.objs.size i2 l1 l2 0 (s5.heap.push { cls:=.type "list",data:=.seq #[] }):=st.keep fun c _ o e=>Qc _ e
 have hS:(s5.heap.push { cls:=.type "list",data:=.seq #[] }).get? s5.heap.objs.size=some { cls:=.type "list",data:=.seq #[] }:=Qq _ rfl
 have bl6:wN s5.heap.objs.size H1 (upd H1 s5.heap.objs.size (.lst [])):=fun b o _ e=>s6 b o e
 refine ⟨⟨_,hS,rfl⟩,F.args_list_init_2 _ _,?_⟩
 show wpAny _ X.A.in1.in1 (do let old<-Builtin.List.listItems (.ref s5.heap.objs.size); Builtin.List.listUpdate (.ref s5.heap.objs.size) (fun _=>#[]); letGo old.toList.reverse; Builtin.List.listExtendWith (.ref s5.heap.objs.size) (.ref z) .none) _ _ _
 refine wpAny_bind ?_
 unfold Builtin.List.listItems
 refine wpAny_bind (wpAny_seqItems hS rfl (wpAny_pure ?_))
 show wpAny _ X.A.in1.in1 (updateSeq s5.heap.objs.size (fun _=>#[]) >>= fun _=>letGo (#[]:Array Value).toList.reverse >>= fun _=>Builtin.List.listExtendWith (.ref s5.heap.objs.size) (.ref z) .none) _ _ _
 refine wpAny_bind (wpAny_updateSeq hS rfl ?_)
 have I7:=I6.lset (t':=s5.toks) (f:=fun _=>#[]) (its':=[]) (ys:=[]) aB hS rfl .nil (Jj _)
 have hS7:=Zb (Obj.mapSeq (fun _=>(#[]:Array Value))) hS rfl
 have st7:=st6.keep (h':=(s5.heap.push { cls:=.type "list",data:=.seq #[] }).update s5.heap.objs.size (Obj.mapSeq (fun _=>(#[]:Array Value)))) fun c hc' o q=>(Xl _ _ (fun q:s5.heap.objs.size=c=>nS (q.symm ▸ hc'))).trans q
 have bl7:wN s5.heap.objs.size H1 (upd (upd H1 s5.heap.objs.size (.lst [])) s5.heap.objs.size (.lst [])):=fun b o nb e=>by rw [aG nb]; exact bl6 b o nb e
 have hf7:∀ c∈[z,TI,TO,s1.heap.objs.size,i2],gU X pins (upd (upd H1 s5.heap.objs.size (.lst [])) s5.heap.objs.size (.lst [])) c:=fun c hc'=>⟨by rw [aG (Jq (hsz c hc'))]; exact (hf6 c hc').1,(hf6 c hc').2⟩
 have g7:IsZip ((s5.heap.push { cls:=.type "list",data:=.seq #[] }).update s5.heap.objs.size (Obj.mapSeq (fun _=>(#[]:Array Value)))) z TI TO .none:=(Xl _ _ (fun q:s5.heap.objs.size=z=>nS (by rw [q]; simp))).trans (Qc _ g5)
 refine wpAny_bind (wpAny_letGo ?_)
 generalize (s5.heap.push { cls:=.type "list",data:=.seq #[] }).update s5.heap.objs.size (Obj.mapSeq (fun _=>(#[]:Array Value)))=h7 at I7 hS7 st7 g7
 have hT7:({ s5 with heap:=h7 }:Shared).TypeIs (.ref z) "zip" := by obtain ⟨f0,f1,_,hz⟩:=st7.zp; exact ⟨_,hz,rfl⟩
 have neS:s5.heap.objs.size≠z:=fun e=>nS (by rw [e]; simp)
 unfold Builtin.List.listExtendWith
 refine wpAny_bind (wpAny_typeOf hT7 ?_)
 have h1:Builtin.List.listSameRef (.ref s5.heap.objs.size) (.ref z)=false:=by simp [Builtin.List.listSameRef,neS]
 have h2:(Value.type "zip" == Value.type "list")=false:=by decide
 have h3:(Value.type "zip" == Value.type "tuple")=false:=by decide
 simp only [h1,h2,h3,Bool.or_false,Xq,if_false]
 have key:∀ (H':Hp) (h':Heap),Inv X pins σ H' { s5 with heap:=h' }->wN s5.heap.objs.size H1 H'->(∀ c∈[z,TI,TO,s1.heap.objs.size,i2],gU X pins H' c)->ZSt k1 k2 z TI TO s1.heap.objs.size i2 l1 l2 0 h'->H' s5.heap.objs.size=some (.lst []) ->
   codeAny (model X.prog X.w) X.A.in1 (.builtin "list.extend.loop" ⟨[.ref s5.heap.objs.size,.ref z,.none],[]⟩) (wants (fun r s₂=>r=Value.none/\EP X pins σ Q (Value.ref s5.heap.objs.size) s₂) X.xe) { s5 with heap:=h' }:=by
  intro H' h' I' b' f' st' hS'
  refine sS hc X.A.in1 (I1.ok.hd hc) DD nS nl1 nl2 _ rfl hmn (min xs.length ys.length - 0) 0 _ H' [] rfl (Jj _) I' f' st' (b'.sq nl1 hA) (b'.sq nl2 hB) hS' rfl (fun j w hw=>by simp at hw) fun s' H2 zs I8 b8 hS8 hl8 hp8=>?_
  refine ⟨rfl,.ref s5.heap.objs.size,H2,I8,rfl,q _ zs H2 (fun b o e=>?_) hfr hS8 hl8 hp8⟩
  have nb:b≠s5.heap.objs.size:=fun c=>by rw [c,hfr] at e; cases e
  exact b8 b o nb (b' b o nb e)
 refine wpAny_bind (wpAny_pyIter_zip g7 ?_)
 refine wpAny_bind (wpAny_holding ?_)
 unfold Builtin.List.listLengthHint
 refine wpAny_bind (wpAny_specialOf hT7 yH ?_)
 show wpAny _ X.A.in1.in1 (specialOf (Value.ref z) (Str.ofString "__length_hint__") >>= _) _ _ _
 refine wpAny_bind (wpAny_specialOf hT7 wM ?_)
 refine wpAny_pure ?_
 refine wpAny_ite_split (fun _=>?_) (fun _=>wpAny_pure ⟨plainId_quiet F.plain_extend_loop _,key _ h7 I7 bl7 hf7 st7 aB⟩)
 refine wpAny_bind (wpAny_rule ?_)
 refine wpAny_bind ?_
 show wpAny _ X.A.in1.in1 (updateSeq s5.heap.objs.size (·.push .none) >>= fun _=>updateSeq s5.heap.objs.size (·.pop)) _ _ _
 refine wpAny_bind (wpAny_updateSeq hS7 rfl ?_)
 have I8:=I7.lset (t':=s5.toks) (f:=(·.push .none)) (its':=[.none]) (ys:=[.non]) aB hS7 rfl (.cons rfl .nil) (by rw [sizeLine_eq]; decide)
 have hS8:=Zb (Obj.mapSeq (·.push Value.none)) hS7 rfl
 refine wpAny_updateSeq (hz:=by seq_fits) hS8 rfl ?_
 have I9:=I8.lset (t':=s5.toks) (f:=(·.pop)) (its':=[]) (ys:=[]) aB hS8 rfl .nil (Jj _)
 refine wpAny_pure ⟨plainId_quiet F.plain_extend_loop _,key _ _ I9 (fun b o nb e=>?_) (fun c hc'=>?_) ?_ aB⟩
 ·rw [aG nb,aG nb]; exact bl7 b o nb e
 ·have nc:=Jq (hsz c hc')
  exact ⟨by rw [aG nc,aG nc]; exact (hf7 c hc').1,(hf7 c hc').2⟩
 ·exact st7.keep fun c hc' o q=>(Xl _ _ (fun q:s5.heap.objs.size=c=>nS (q.symm ▸ hc'))).trans ((Xl _ _ (fun q:s5.heap.objs.size=c=>nS (q.symm ▸ hc'))).trans q)
end
section
variable {X:Cx}
theorem yJ {K:PySem.W.Frag} (hK:X.K=K) (hc:X.calm=true):fY X (.builtin "max") (fun xs H Q=>∃ (p:Addr) (ns:List Int),xs = [.ref p]/\SqT K H p (ns.map V.int)/\0 < ns.length/\∀ M,M∈ns->(∀ a∈ns,a<=M)->Q (.int M) H):=by
 subst hK
 intro pins s σ H xs us Q I r h
 obtain ⟨p,ns,rfl,hx,hne,q⟩:=h
 obtain ⟨u,rfl,rx⟩:=jJ r
 cases rx
 obtain ⟨its,rv,pl,hz⟩:=I.tuple hx
 have hi:IntsAre its ns:=kG rv
 obtain ⟨xs,e⟩:=hi.allInts.items
 have hns:ns=xs.toList.map (·.1):=by
  rw [<- hi.numsOf,<- nums_intItems,<- e]
 have hsz:0 < xs.size:=by
  have h3:=hne; rw [hns,Qa,Array.length_toList] at h3; exact h3
 rw [e] at pl
 have hlt:p < s.heap.objs.size:=by obtain ⟨o,e,_⟩:=pl; exact Qm e
 refine call_max_walk (wpAny_pyIter_tuple pl ?_)
 refine ⟨s.heap.objs.size,_,_,_,_,_,_,rfl,Walks.tuple (A:=X.A.in1) (I.ok.hd hc) s.heap.objs.size p (Jq hlt) (intItems xs),⟨⟨_,Qq _ rfl,rfl,rfl⟩,pl.push _⟩,?_,by simpa [intItems] using hsz,CmpOf.ints_gt (numAt xs) (fun _ _=>intItems_at),fun v h' tk hv hk=>?_⟩
 ·intro b hb'
  rw [Xf]
  rcases Qp.mp hb' with e | e
  ·rw [e]; exact Nat.lt_succ_self _
  ·have e':b=p:=by simpa using e
   rw [e']; exact Nat.lt_succ_of_lt hlt
 have hv:(intItems xs)[argBest (fun i j=>decide (numAt xs i > numAt xs j)) (xs.size - 1)]?=some v:=by simpa [intItems] using hv
 obtain ⟨t,rfl⟩:=intItems_at hv
 obtain ⟨h1,h2⟩:=argBest_gt (numAt xs) (xs.size - 1)
 have hk':∀ b o,s.heap.get? b=some o->h'.get? b=some o:=fun b o e=>by
  refine hk b o (fun hm=>?_) (Qc _ e)
  rcases Qp.mp hm with e1 | hm
  ·exact absurd (e1 ▸ Qm e) (Qu _)
  ·cases hm
 refine ⟨.int _,H,I.kept hk',⟨_,rfl⟩,q _ ?_ fun a ha=>?_⟩
 ·rw [hns,numAt_eq]; exact getD_mem (by rw [Qa,Array.length_toList]; omega)
 ·rw [hns] at ha
  obtain ⟨j,hj,rfl⟩:=mem_getD ha
  rw [Qa,Array.length_toList] at hj
  rw [<- numAt_eq]; exact h2 j (by omega)
end
theorem zX:bootBuiltins "max" = some (.builtin "max"):=by decide +kernel
def aDA (ys:List KE) (k:List Key):Bool:=ys.any fun e=>decide (e.1=k)
def aDB (ys:List KE) (k:List Key) (b:Addr) (y:V):List KE:=if aDA ys k=true then ys.map (fun e=>if e.1=k then (e.1,e.2.1,y) else e) else ys++[(k,b,y)]
theorem aCa {ys:List KE} {k:List Key}:aDA ys k=true↔k∈ys.map (·.1):=by
 unfold aDA
 rw [Jz,Jd]
 exact ⟨fun ⟨e,h1,h2⟩=>⟨e,h1,of_decide_eq_true h2⟩,fun ⟨e,h1,h2⟩=>⟨e,h1,decide_eq_true h2⟩⟩
theorem Kp.put {ys:List KE} {H:Hp} {k:List Key} {b:Addr} {y:V} (h:Kp ys H) (hb:H b=some (.tup (k.map kV))):Kp (aDB ys k b y) H:=by
 unfold aDB
 split
 ·intro e he
  obtain ⟨e0,h0,rfl⟩:=Jd.mp he
  have:=h e0 h0
  split
  ·exact this
  ·exact this
 ·intro e he
  rcases Jm.mp he with he | he
  ·exact h e he
  ·rw [Qo.mp he]; exact hb
theorem KY.has {ys:List KE} {its:List (List Key×Addr×Value)} {k:List Key} (r:KY ys its):aDA ys k=(atKey its k).isSome:=by
 rw [Xm,aCa,r.keys]
 unfold atKey
 rw [Wh,List.find?_isSome,Jd]
 exact ⟨fun ⟨e,h1,h2⟩=>⟨e,h1,decide_eq_true h2⟩,fun ⟨e,h1,h2⟩=>⟨e,h1,of_decide_eq_true h2⟩⟩
theorem KY.mapE {ys:List KE} {its:List (List Key×Addr×Value)} {k:List Key} {y:V} {v:Value} (r:KY ys its) (h:bD y v):KY (ys.map (fun e=>if e.1=k then (e.1,e.2.1,y) else e)) (its.map (putAt k v)):=by
 induction r with
 | nil=>exact .nil
 | @cons p q ps qs h1 _ ih =>
  refine .cons ?_ ih
  by_cases hk:p.1=k
  ·have e1:(if p.1=k then (p.1,p.2.1,y) else p)=(p.1,p.2.1,y):=if_pos hk
   have e2:putAt k v q=(q.1,q.2.1,v):=if_pos (h1.1 ▸ hk)
   show (if p.1=k then (p.1,p.2.1,y) else p).1=(putAt k v q).1/\(if p.1=k then (p.1,p.2.1,y) else p).2.1=(putAt k v q).2.1/\bD (if p.1=k then (p.1,p.2.1,y) else p).2.2 (putAt k v q).2.2
   rw [e1,e2]
   exact ⟨h1.1,h1.2.1,h⟩
  ·have e1:(if p.1=k then (p.1,p.2.1,y) else p)=p:=if_neg hk
   have e2:putAt k v q=q:=if_neg (fun z=>hk (h1.1.trans z))
   show (if p.1=k then (p.1,p.2.1,y) else p).1=(putAt k v q).1/\(if p.1=k then (p.1,p.2.1,y) else p).2.1=(putAt k v q).2.1/\bD (if p.1=k then (p.1,p.2.1,y) else p).2.2 (putAt k v q).2.2
   rw [e1,e2]
   exact h1
theorem KY.stored {ys:List KE} {its:List (List Key×Addr×Value)} {k:List Key} {b:Addr} {y:V} {v:Value} (r:KY ys its) (h:bD y v):KY (aDB ys k b y) (storedH its k b v):=by
 unfold aDB storedH
 rw [r.has]
 split
 ·exact r.mapE h
 ·exact r.snoc h
section
variable {X:Cx} {scope:Scope} {own frn:List Str} {fr:List Nat} {kx vx tg iter:Expr} {ifs:List Expr} {pos:Pos} {wi:TI} {g:TG} {tt:TT} {tk tv:TE}
end
section
variable {K:PySem.W.Frag} {own:Nat} {fr:List Nat} {g g2:TG} {te:TE} {wi2:TI} {σ:St} {H:Hp} {Q:Hp->List V->Prop}
end
section
variable {X:Cx} {scope:Scope} {own frn:List Str} {fr:List Nat} {elt tg iter tg2 iter2:Expr} {pos:Pos} {wi wi2:TI} {g g2:TG} {te:TE}
end
section
variable {X:Cx} {pins:List (Addr×Obj)} {σ:St}
end
section
variable {prog:Program} {w:World} {A:Around} {R:Result->Shared->Prop} {s:Shared} {kx vx tg iter tg2 iter2:Expr} {scope:Scope} {pos:Pos} {it:Value} {D:Addr} {env:Env}
theorem qJ:compTurn (.DictComp kx vx [⟨tg,iter,[],0⟩,⟨tg2,iter2,[],0⟩] scope pos) 0 it (.ref D) env=(standAt iter.pos >>= fun _=>pyNext it >>= fun r=>match r with
   | none=>pure (.done .next)
   | some v=>letOwnedTupleGo tg it v >>= fun _=>assign tg env v >>= fun _ =>
    (eval iter2 env >>= fun x=>standAt iter2.pos >>= fun _=>foldedSetIterable iter2 env x >>= fun x=>holding [x] (pyIter x) >>= fun i =>
     runOwn (.compStart (.DictComp kx vx [⟨tg,iter,[],0⟩,⟨tg2,iter2,[],0⟩] scope pos) 1 i (.ref D) env) env >>= fun _ =>
     again (.compLoop (.DictComp kx vx [⟨tg,iter,[],0⟩,⟨tg2,iter2,[],0⟩] scope pos) 0 it (.ref D) env))):=by rfl
theorem qK:compTurn (.DictComp kx vx [⟨tg,iter,[],0⟩,⟨tg2,iter2,[],0⟩] scope pos) 1 it (.ref D) env=(standAt iter2.pos >>= fun _=>pyNext it >>= fun r=>match r with
   | none=>pure (.done .next)
   | some v=>letOwnedTupleGo tg2 it v >>= fun _=>assign tg2 env v >>= fun _ =>
    (eval kx env >>= fun kv=>holding [kv] (eval vx env) >>= fun vv=>standAt { line:=kx.pos.line,col:=kx.pos.col,endLine:=vx.pos.endLine,endCol:=vx.pos.endCol } >>= fun _=>holding [kv,vv] (dictSet D kv vv)) >>= fun _ =>
     again (.compLoop (.DictComp kx vx [⟨tg,iter,[],0⟩,⟨tg2,iter2,[],0⟩] scope pos) 1 it (.ref D) env)):=by rfl
theorem kJ
  (h0:codeAny (model prog w) A (.compLoop (.DictComp kx vx [⟨tg,iter,[],0⟩,⟨tg2,iter2,[],0⟩] scope pos) 1 it (.ref D) env) R s)
  (h:wpAny (model prog w) A (pyIter it) (fun it' s'=>codeAny (model prog w) A (.compLoop (.DictComp kx vx [⟨tg,iter,[],0⟩,⟨tg2,iter2,[],0⟩] scope pos) 1 it' (.ref D) env) R s')
   (notedBy (model prog w) A env fun x s'=>R (.error x) s') s) :
  codeAny (model prog w) A (.compStart (.DictComp kx vx [⟨tg,iter,[],0⟩,⟨tg2,iter2,[],0⟩] scope pos) 1 it (.ref D) env) R s:=by
 refine codeAny_of_tree ?_
 show wpAny _ _ ((compStart (.DictComp kx vx [⟨tg,iter,[],0⟩,⟨tg2,iter2,[],0⟩] scope pos) 1 it (.ref D) env).onRaise (fun x=>do noteFrame x env; standAt theWindowsPlace)) _ _ s
 refine wpAny_notedAt ?_
 unfold compStart
 show wpAny _ _ (ask >>= _) _ _ s
 refine wpAny_bind (wpAny_askSetting (wpAny_ite ?_))
 split
 ·first
   | exact wpAny_bind (wpAny_pure (wpAny_pure (And.intro rfl h0)))
   | exact wpAny_pure (And.intro rfl h0)
 ·first
   | exact wpAny_bind (wpAny_rule (wpAny_bind (wpAny_standAt (wpAny_bind (wpAny_mono h (fun it' s' h'=>wpAny_pure (And.intro rfl h')) fun _ _ x=>x)))))
   | (refine wpAny_bind (wpAny_rule ?_); show wpAny _ _ (standAt iter2.pos >>= _) _ _ s; exact wpAny_bind (wpAny_standAt (wpAny_bind (wpAny_mono h (fun it' s' h'=>wpAny_pure (And.intro rfl h')) fun _ _ x=>x))))
theorem uJ (I:Nat->Shared->Prop)
  (turn:∀ n s,I n s->wpAny (model prog w) A (pyNext it) (fun r s₁=>match r with
   | none=>R (.ok .next) s₁
   | some v=>wpAny (model prog w) A (letOwnedTupleGo tg2 it v) (fun _ s₁'=>wpAny (model prog w) A (assign tg2 env v) (fun _ s₂ =>
     wpAny (model prog w) A (eval kx env) (fun kv s₃=>wpAny (model prog w) A (eval vx env) (fun vv s₄ =>
       wpAny (model prog w) A (dictSet D kv vv) (fun _ s₅=>∃ m,m < n/\I m s₅) (fun _ _=>False) s₄) (fun _ _=>False) s₃) (fun _ _=>False) s₂) (fun _ _=>False) s₁') (fun _ _=>False) s₁) (fun _ _=>False) s)
  (n:Nat) (h:I n s) :
  codeAny (model prog w) A (.compLoop (.DictComp kx vx [⟨tg,iter,[],0⟩,⟨tg2,iter2,[],0⟩] scope pos) 1 it (.ref D) env) R s:=by
 refine codeAny_loop rfl I (fun n s hI=>?_) n h
 show wpAny _ A ((compTurn (.DictComp kx vx [⟨tg,iter,[],0⟩,⟨tg2,iter2,[],0⟩] scope pos) 1 it (.ref D) env).onRaise (fun x=>do noteFrame x env; theTreesLotGoes x)) _ _ s
 refine wpAny_noted ?_
 rw [qK]
 refine wpAny_bind (wpAny_standAt (wpAny_bind (wpAny_mono (turn n s hI) (fun r s₁ h₁=>?_) fun _ _ h'=>h'.elim)))
 cases r with
 | none=>exact wpAny_pure h₁
 | some v =>
  refine wpAny_bind (wpAny_mono h₁ (fun _ s₁' h₁'=>?_) fun _ _ h'=>h'.elim)
  refine wpAny_bind (wpAny_mono h₁' (fun _ s₂ h₂=>?_) fun _ _ h'=>h'.elim)
  exact wpAny_bind (wpAny_bind (wpAny_mono h₂ (fun kv s₃ h₃=>wpAny_bind (wpAny_holding (wpAny_mono h₃ (fun vv s₄ h₄=>wpAny_bind (wpAny_standAt (wpAny_holding (wpAny_mono h₄ (fun _ s₅ h₅=>wpAny_pure ⟨rfl,h₅⟩) fun _ _ h'=>h'.elim)))) fun _ _ h'=>h'.elim))) fun _ _ h'=>h'.elim))
theorem sT (hs2:∀ x,foldedSetIterable iter2 env x=pure x) (I:Nat->Shared->Prop)
  (turn:∀ n s,I n s->wpAny (model prog w) A (pyNext it) (fun r s₁=>match r with
   | none=>R (.ok .next) s₁
   | some v=>wpAny (model prog w) A (letOwnedTupleGo tg it v) (fun _ s₁'=>wpAny (model prog w) A (assign tg env v) (fun _ s₂ =>
     wpAny (model prog w) A (eval iter2 env) (fun x s₃=>wpAny (model prog w) A (pyIter x) (fun i s₄ =>
       codeAny (model prog w) A (.compStart (.DictComp kx vx [⟨tg,iter,[],0⟩,⟨tg2,iter2,[],0⟩] scope pos) 1 i (.ref D) env) (fun r s₅=>match r with
        | .ok _=>∃ m,m < n/\I m s₅
        | .error _=>False) s₄) (fun _ _=>False) s₃) (fun _ _=>False) s₂) (fun _ _=>False) s₁') (fun _ _=>False) s₁) (fun _ _=>False) s)
  (n:Nat) (h:I n s) :
  codeAny (model prog w) A (.compLoop (.DictComp kx vx [⟨tg,iter,[],0⟩,⟨tg2,iter2,[],0⟩] scope pos) 0 it (.ref D) env) R s:=by
 refine codeAny_loop rfl I (fun n s hI=>?_) n h
 show wpAny _ A ((compTurn (.DictComp kx vx [⟨tg,iter,[],0⟩,⟨tg2,iter2,[],0⟩] scope pos) 0 it (.ref D) env).onRaise (fun x=>do noteFrame x env; theTreesLotGoes x)) _ _ s
 refine wpAny_noted ?_
 rw [qJ]
 refine wpAny_bind (wpAny_standAt (wpAny_bind (wpAny_mono (turn n s hI) (fun r s₁ h₁=>?_) fun _ _ h'=>h'.elim)))
 cases r with
 | none=>exact wpAny_pure h₁
 | some v =>
  refine wpAny_bind (wpAny_mono h₁ (fun _ s₁' h₁'=>?_) fun _ _ h'=>h'.elim)
  refine wpAny_bind (wpAny_mono h₁' (fun _ s₂ h₂=>?_) fun _ _ h'=>h'.elim)
  refine wpAny_bind (wpAny_mono h₂ (fun x s₃ h₃=>?_) fun _ _ h'=>h'.elim)
  refine wpAny_bind (wpAny_standAt (wpAny_bind (wpAny_of_eq (hs2 x) (wpAny_bind (wpAny_holding (wpAny_mono h₃ (fun i s₄ h₄=>?_) fun _ _ h'=>h'.elim))))))
  refine wpAny_bind (wpAny_runOwn (codeAny_mono h₄ fun r s₅ h₅=>?_))
  cases r with
  | ok f=>exact wpAny_pure ⟨rfl,h₅⟩
  | error e=>exact False.elim h₅
end
theorem wO {Y:Cx} {kx vx tg iter tg2 iter2:Expr} {scope:Scope} {pos:Pos} {it2 D:Addr} {fp2:List Addr} {tn2:Nat->Heap->Prop} {J2:It} {g2:TG} {tk tv:TE} {ps:List (Addr×Obj)} {σ:St} {H:Hp} {s:Shared} {zs:List (Key×V)} {its:List (Key×Value)} {o:Obj} {F:List (Key×V)->St->Hp->Prop} {R:Result->Shared->Prop}
  (hx:∀ v s',¬ Y.xe v s') (hc:Y.calm=true) (T:Turn Y.prog Y.w Y.K tg2 J2 fp2 it2 tn2) (hg:PG Y tg2 g2) (hk:PE Y kx tk) (he:PE Y vx tv)
  (hDL:D≠Y.env.locals) (hD1:D∈Y.ex∨Y.s₀.heap.objs.size<=D) (hDc:∀ x c,Y.env.cells.lookup x=some c->c≠D) (hDp:∀ p∈Y.pn,p.1≠D) (hDfs:D∉Y.fs) (hps:∀ p∈ps,p.1≠D)
  (I0:Inv Y ((D,o)::ps) σ H s) (pl0:s.heap.DictOf (bC Y.prog Y.w) D its) (v0:KV zs its) (z0:zs.length<=sizeLine) (st0:tn2 0 s.heap) (f0:∀ b∈fp2,gU Y ((D,o)::ps) H b)
  (w:∃ W2:Nat->Nat->List (Key×V)->St->Hp->Prop,(∃ m2,W2 0 m2 zs σ H)/\∀ j m2 zs σ3 H4,W2 j m2 zs σ3 H4->(J2.stop j H4/\F zs σ3 H4)∨(J2.go j H4/\∃ N2:List (Key×V)->St->Hp->Prop,(∀ zs' σ4 H5,N2 zs' σ4 H5->∃ m3,m3 < m2/\W2 (j+1) m3 zs' σ4 H5) /\
   ∀ x H',J2.yld j H4 x H'->g2 x σ3 H' fun σ4 H5=>tk σ4 H5 fun kx H6=>tv σ4 H6 fun y H7=>∃ k,kx=kV k/\zs.length < sizeLine/\N2 (dZ zs k y) σ4 H7))
  (hR:∀ (s':Shared) (σ':St) (H':Hp) (zs':List (Key×V)) (its':List (Key×Value)) (o':Obj),Inv Y ((D,o')::ps) σ' H' s'->s'.heap.DictOf (bC Y.prog Y.w) D its'->KV zs' its'->zs'.length<=sizeLine->F zs' σ' H'->R (.ok .next) s') :
  codeAny (model Y.prog Y.w) Y.A (.compStart (.DictComp kx vx [⟨tg,iter,[],0⟩,⟨tg2,iter2,[],0⟩] scope pos) 1 (.ref it2) (.ref D) Y.env) R s:=by
 obtain ⟨W2,⟨m0,w0⟩,turn⟩:=w
 have stat:∀ {H':Hp} {o':Obj},(∀ b∈fp2,H' b=none)->∀ b∈fp2,gU Y ((D,o')::ps) H' b:=fun {H' o'} hn b hb=>by
  obtain ⟨_,q1,q2,q3,q4,q5⟩:=f0 b hb
  refine ⟨hn b hb,q1,q2,q3,q4,fun p hp=>?_⟩
  rcases Jm.mp hp with h | h
  ·exact q5 p (Jf _ h)
  ·rcases Qp.mp h with h | h
   ·rw [h]; exact q5 (D,o) (Qj _ (Qg ..))
   ·exact q5 p (Qj _ (Ql _ h))
 have loop:codeAny (model Y.prog Y.w) Y.A (.compLoop (.DictComp kx vx [⟨tg,iter,[],0⟩,⟨tg2,iter2,[],0⟩] scope pos) 1 (.ref it2) (.ref D) Y.env) R s:=by
  refine uJ (fun n s'=>∃ j σ' H' ys its o,Inv Y ((D,o)::ps) σ' H' s'/\s'.heap.DictOf (bC Y.prog Y.w) D its/\KV ys its/\ys.length<=sizeLine/\tn2 j s'.heap/\(∀ b∈fp2,H' b=none)/\W2 j n ys σ' H') ?_ m0
   ⟨0,σ,H,zs,its,o,I0,pl0,v0,z0,st0,fun b hb=>(f0 b hb).1,w0⟩
  rintro n s5 ⟨i,σ5,H5,ys,its,o,I5,pl5,v5,z5,st5,fr5,w5⟩
  have p5':=I5.pin (D,o) (Qj _ (Qg ..))
  rcases turn i n ys σ5 H5 w5 with ⟨stop,qn⟩ | ⟨go,N,hN,step⟩
  ·refine wpAny_mono (T.done Y rfl rfl rfl hc i _ s5 σ5 H5 (fun _ _=>False) I5 (stat fr5) st5 stop) (fun r s6 hx9=>?_) fun _ _ z=>z
   obtain ⟨hr,I6⟩:=hx9
   subst hr
   have p6:=I6.pin (D,o) (Qj _ (Qg ..))
   have pl6:s6.heap.DictOf (bC Y.prog Y.w) D its:=pl5.at fun o' e=>p6.1.trans (p5'.1.symm.trans e)
   exact hR s6 σ5 H5 ys its o I6 pl6 v5 z5 qn
  ·refine wpAny_mono (T.item Y rfl rfl rfl hc i _ s5 σ5 H5 (fun _ _=>False) I5 (stat fr5) st5 go) (fun r s6 hx9=>?_) fun _ _ z=>z
   obtain ⟨u,hr,h6⟩:=hx9
   subst hr
   refine wpAny_mono h6 (fun _ s7 hx9=>?_) fun _ _ z=>z
   obtain ⟨x,H7,I7,r7,y7,st7,fr7⟩:=hx9
   have I7':=I7.pinned (stat fr7) (T.obj _ _ st7)
   refine wpAny_mono (hg _ s7 σ5 H7 x u _ I7' r7 (step x H7 y7)) (fun _ s8 hx9=>?_) fun v s' z=>hx v s' z
   obtain ⟨σ8,H8,I8,q8⟩:=hx9
   have keepT:∀ {H':Hp} {s':Shared} {σ':St},Inv Y (((D,o)::ps)++jU fp2 s7.heap) σ' H' s'->tn2 (i+1) s'.heap/\(∀ b∈fp2,H' b=none)/\s'.heap.DictOf (bC Y.prog Y.w) D its/\H' D=none:=fun {H' s' σ'} I'=>by
    refine ⟨T.keep _ _ _ st7 fun b hb o e=>(I'.pin (b,o) (Qj _ (Qj _ (bY hb e)))).1,fun b hb=>?_,?_,?_⟩
    ·obtain ⟨o,e,d⟩:=T.obj _ _ st7 b hb
     exact (I'.pin (b,o) (Qj _ (Qj _ (bY hb e)))).2.1
    ·have p':=I'.pin (D,o) (Qj _ (Jf _ (Qg ..)))
     exact pl5.at fun o' e=>p'.1.trans (p5'.1.symm.trans e)
    ·exact (I'.pin (D,o) (Qj _ (Jf _ (Qg ..)))).2.1
   refine wpAny_mono (hk _ s8 σ8 H8 _ I8 q8) (fun kv s9 hx9=>?_) fun v s' z=>hx v s' z
   obtain ⟨kxv,H9,I9,r9,q9⟩:=hx9
   refine wpAny_mono (he _ s9 σ8 H9 _ I9 q9) (fun y s10 hx9=>?_) fun v s' z=>hx v s' z
   obtain ⟨yv,H10,I10,r10,k10,ek,lt10,q10⟩:=hx9
   subst ek
   obtain ⟨t10,fr10,pl10,hD10⟩:=keepT I10
   have hl:=v5.length
   refine wpAny_dictSet_pairs (knd:=bC Y.prog Y.w) (qC r9) pl10 (fun h11 pl11 sb11=>?_) (by rw [<- hl]; exact Zo lt10)
   obtain ⟨m',hm,w'⟩:=hN _ σ8 H10 q10
   have I10':Inv Y [] σ8 H10 s10:=I10.pins_of fun p hp=>by cases hp
   have I11:Inv Y [] σ8 H10 { s10 with heap:=h11,toks:=s10.toks+1 } :=
    I10'.turned (t':=s10.toks+1) (it:=D) (fun b o hb e=>(sb11.2 b hb).trans e) hD10 hDL hD1 hDc (fun p hp=>by rw [Xh] at hp; exact hDp p hp)
   obtain ⟨o11,es11,ep11,ho11,hc11,hd11,_⟩:=id pl11
   refine ⟨m',hm,i+1,σ8,H10,dZ ys k10 yv,stored its k10 y,o11,I11.pins_of fun p hp=>?_,pl11,v5.put k10 r10,Qv (jM _ _ _) lt10,T.keep _ _ _ t10 fun b hb o e=>(sb11.2 b (fun z=>?_)).trans e,fr10,w'⟩
   ·rcases Qp.mp hp with h | h
    ·subst h
     exact ⟨ho11,hD10,hDL,hDfs,fun v z=>by rw [hd11] at z; cases z⟩
    ·obtain ⟨a1,a2,a3,a4,a5⟩:=I10.pin p (Qj _ (Jf _ (Ql _ h)))
     exact ⟨(sb11.2 p.1 (hps p h)).trans a1,a2,a3,a4,a5⟩
   ·exact (f0 b hb).2.2.2.2.2 (D,_) (Qj _ (Qg ..)) z.symm
 exact kJ loop (T.self Y.A 0 _ _ _ st0 loop)
def aDC (own:Nat) (fr:List Nat) (wi:TI) (g:TG) (wi2:TI) (g2:TG) (tk tv:TE):TE:=fun σ H Q=>wi σ H fun J H1=>∃ W:Nat->Nat->List (Key×V)->St->Hp->Prop,(∃ m,W 0 m [] (blk own fr σ) H1)/\∀ i m ys σ' H,W i m ys σ' H ->
   (J.stop i H/\∀ p,H p=none->Q (.ref p) (upd H p (.dK ys))) ∨
   (J.go i H/\∃ N:List (Key×V)->St->Hp->Prop,(∀ ys' σ2 H2,N ys' σ2 H2->∃ m',m' < m/\W (i+1) m' ys' σ2 H2) /\
    ∀ x H',J.yld i H x H'->g x σ' H' fun σ2 H2=>wi2 σ2 H2 fun J2 H3=>∃ W2:Nat->Nat->List (Key×V)->St->Hp->Prop,(∃ m2,W2 0 m2 ys σ2 H3)/\∀ j m2 zs σ3 H4,W2 j m2 zs σ3 H4->(J2.stop j H4/\N zs σ3 H4)∨(J2.go j H4/\∃ N2:List (Key×V)->St->Hp->Prop,(∀ zs' σ4 H5,N2 zs' σ4 H5->∃ m3,m3 < m2/\W2 (j+1) m3 zs' σ4 H5) /\
     ∀ x H',J2.yld j H4 x H'->g2 x σ3 H' fun σ4 H5=>tk σ4 H5 fun kx H6=>tv σ4 H6 fun y H7=>∃ k,kx=kV k/\zs.length < sizeLine/\N2 (dZ zs k y) σ4 H7))
section
variable {X:Cx} {scope:Scope} {own frn:List Str} {fr:List Nat} {kx vx tg iter tg2 iter2:Expr} {pos:Pos} {wi wi2:TI} {g g2:TG} {tk tv:TE}
theorem uK {pins:List (Addr×Obj)} {σ:St} {H2:Hp} {s2:Shared} {it:Addr} {fp:List Addr} {tn:Nat->Heap->Prop} {J:It} {RR:Value->Addr->Result->Shared->Prop} {E:Value->Shared->Prop} {Q:Hp->List (Key×V)->Prop}
  (S:CompOk X scope own fr frn) (hc:X.calm=true) (I2:Inv X pins σ H2 s2) (T:Turn X.prog X.w X.K tg J fp it tn) (st2:tn 0 s2.heap) (f2:∀ b∈fp,gU X pins H2 b)
  (hg:∀ C s0 H0 fp,PG (aP X scope (own++frn) C s0 H0 fp) tg g) (hi2:∀ C s0 H0 fp,PI (aP X scope (own++frn) C s0 H0 fp) tg2 iter2 wi2) (hg2:∀ C s0 H0 fp,PG (aP X scope (own++frn) C s0 H0 fp) tg2 g2) (hk:∀ C s0 H0 fp,PE (aP X scope (own++frn) C s0 H0 fp) kx tk) (he:∀ C s0 H0 fp,PE (aP X scope (own++frn) C s0 H0 fp) vx tv) (hs2:∀ C x,foldedSetIterable iter2 (compEnvC scope (bZ X.env scope.names []) C X.env) x=pure x)
  (w:∃ W:Nat->Nat->List (Key×V)->St->Hp->Prop,(∃ m,W 0 m [] (blk own.length fr σ) H2)/\∀ i m ys σ' H,W i m ys σ' H ->
   (J.stop i H/\Q H ys) ∨
   (J.go i H/\∃ N:List (Key×V)->St->Hp->Prop,(∀ ys' σ2 H2,N ys' σ2 H2->∃ m',m' < m/\W (i+1) m' ys' σ2 H2) /\
    ∀ x H',J.yld i H x H'->g x σ' H' fun σ2 H2=>wi2 σ2 H2 fun J2 H3=>∃ W2:Nat->Nat->List (Key×V)->St->Hp->Prop,(∃ m2,W2 0 m2 ys σ2 H3)/\∀ j m2 zs σ3 H4,W2 j m2 zs σ3 H4->(J2.stop j H4/\N zs σ3 H4)∨(J2.go j H4/\∃ N2:List (Key×V)->St->Hp->Prop,(∀ zs' σ4 H5,N2 zs' σ4 H5->∃ m3,m3 < m2/\W2 (j+1) m3 zs' σ4 H5) /\
     ∀ x H',J2.yld j H4 x H'->g2 x σ3 H' fun σ4 H5=>tk σ4 H5 fun kx H6=>tv σ4 H6 fun y H7=>∃ k,kx=kV k/\zs.length < sizeLine/\N2 (dZ zs k y) σ4 H7)))
  (hRR:∀ (C D:Addr) (s':Shared) (H':Hp) (ys:List (Key×V)) (its:List (Key×Value)) (m:Str->Option Value),s2.heap.objs.size<=C->s2.heap.objs.size<=D->D≠C->s'.heap.Ns C m->H' C=none->H' D=none->s'.heap.DictOf (bC X.prog X.w) D its->KV ys its->ys.length<=sizeLine ->
   Inv X pins σ H' s'->Q H' ys->RR (.ref D) C (.ok .next) s') :
  wpAny (model X.prog X.w) X.A newDict (fun acc s₃=>wpAny (model X.prog X.w) X.A (newFunctionEnv scope X.env.globals (bZ X.env scope.names []) [] X.env.qual none .none (some X.env)) (fun cenv s₄ =>
   codeAny (model X.prog X.w) X.A (.compStart (.DictComp kx vx [⟨tg,iter,[],0⟩,⟨tg2,iter2,[],0⟩] scope pos) 0 (.ref it) acc { cenv with scope:=relabel scope X.env }) (RR acc cenv.locals) s₄) E s₃) E s2:=by
 obtain ⟨p1,p2,p3,p4,p5,p6,p7⟩:=S.parts
 obtain ⟨W,⟨m0,w0⟩,turn⟩:=w
 refine wpAny_newObj_type (wpAny_newFunctionEnv p2 (by intro y hy; simp at hy) (fun h₁ hns₁ hsb₁=>?_) p1)
 dsimp only at hns₁ hsb₁ ⊢
 generalize hH2:s2.heap.push { cls:=.type "dict",dict:=none,data:=.dict #[] }=HD at hns₁ hsb₁ ⊢
 have hCs:HD.objs.size=s2.heap.objs.size+1:=by rw [<- hH2,Xf]
 have hDC:s2.heap.objs.size≠HD.objs.size:=by omega
 have hCle:s2.heap.objs.size<=HD.objs.size:=by omega
 have below:∀ b,b < s2.heap.objs.size->b≠HD.objs.size/\b≠s2.heap.objs.size:=fun b hb=>⟨by omega,by omega⟩
 have old:∀ b o,s2.heap.get? b=some o->h₁.get? b=some o:=fun b o e=>hsb₁.extBut b o (below b (Qm e)).1 (Qc _ (hH2 ▸ Qc _ e))
 have hacc:h₁.get? s2.heap.objs.size=some { cls:=.type "dict",dict:=none,data:=.dict #[] }:=hsb₁.extBut _ _ hDC (Qc _ (hH2 ▸ Qq _ rfl))
 have hdict:h₁.DictOf (bC X.prog X.w) s2.heap.objs.size []:=Heap.DictOf.at (hH2 ▸ Heap.DictOf.new s2.heap:HD.DictOf (bC X.prog X.w) s2.heap.objs.size []) fun o e=>hsb₁.extBut _ _ hDC (Qc _ e)
 have flt:∀ b∈fp,b < s2.heap.objs.size:=fun b hb=>by
  obtain ⟨o,e,_⟩:=T.obj _ _ st2 b hb
  exact Qm e
 generalize hDg:s2.heap.objs.size=D at *
 generalize hCg:HD.objs.size=C at *
 have st3:tn 0 h₁:=T.keep _ _ _ st2 fun b _ o e=>old b o e
 -- facts of the block
 have clsub:∀ x c,(bZ X.env scope.names []).lookup x=some c->X.env.cells.lookup x=some c:=fun x c e=>by
  rcases gO _ _ _ _ (cQ e) with q | q
  ·cases q
  ·exact q
 have cD:∀ x c,(bZ X.env scope.names []).lookup x=some c->c≠D:=fun x c e z=>by
  obtain ⟨v,q⟩:=I2.cell x c (clsub x c e)
  exact Qu _ (Qi q.lt (by rw [hDg,z]; exact Qk _))
 have loop:∀ s₃:Shared,s₃={ s2 with heap:=h₁,toks:=s2.toks+([]:List (Str×Value)).length } ->
   codeAny (model X.prog X.w) X.A (.compLoop (.DictComp kx vx [⟨tg,iter,[],0⟩,⟨tg2,iter2,[],0⟩] scope pos) 0 (.ref it) (.ref D) (compEnvC scope (bZ X.env scope.names []) C X.env)) (RR (.ref D) C) s₃:=by
  rintro s₃ rfl
  have I3:Inv (aP X scope (own++frn) C s2 H2 fp) [(D,_)] (blk own.length fr σ) H2 { s2 with heap:=h₁,toks:=s2.toks+([]:List (Str×Value)).length } :=
   pT (m:=fun _=>none) I2 S f2 (by rw [hDg]; exact flt) (by rw [hDg]; exact hCle) (hns₁:h₁.Ns C _) old (by rw [hDg]; exact Qk _) hDC hacc (fun v z=>by cases z)
  have stat:∀ {H':Hp} {pl:List (Addr×Obj)},(∀ p∈pl,p.1=D)->(∀ b∈fp,H' b=none)->∀ b∈fp,gU (aP X scope (own++frn) C s2 H2 fp) pl H' b:=fun {H' pl} hpl hn b hb=>by
   refine ⟨hn b hb,(below b (flt b hb)).1,fun z=>?_,.inl hb,fun x c e=>(f2 b hb).2.2.2.2.1 x c (clsub x c e),fun p hp=>?_⟩
   ·have z':b∈frs X.stack:=z
    rcases Qp.mp (I2.stkSub b z') with e | e
    ·exact (f2 b hb).2.1 e
    ·exact (f2 b hb).2.2.1 e
   ·have hp':p∈pl:=by simpa [aP] using hp
    rw [hpl p hp']
    exact Ne.symm (below b (flt b hb)).2
  refine sT (hs2 C) (env:=compEnvC scope (bZ X.env scope.names []) C X.env) (fun n s'=>∃ i σ' H' ys its o,Inv (aP X scope (own++frn) C s2 H2 fp) [(D,o)] σ' H' s'/\s'.heap.DictOf (bC X.prog X.w) D its/\KV ys its/\ys.length<=sizeLine/\tn i s'.heap/\(∀ b∈fp,H' b=none)/\W i n ys σ' H') ?_ m0
   ⟨0,_,H2,[],[],_,I3,hdict,.nil,Jj _,st3,fun b hb=>(f2 b hb).1,w0⟩
  rintro n s5 ⟨i,σ5,H5,ys,its,o,I5,pl5,v5,z5,st5,fr5,w5⟩
  have one:∀ {o:Obj},∀ p∈[(D,o)],p.1=D:=fun p hp=>by
   have e:=Qo.mp hp
   rw [e]
  rcases turn i n ys σ5 H5 w5 with ⟨stop,qn⟩ | ⟨go,N,hN,step⟩
  ·refine wpAny_mono (T.done (aP X scope (own++frn) C s2 H2 fp) rfl rfl rfl hc i _ s5 σ5 H5 (fun _ _=>False) I5 (stat one fr5) st5 stop) (fun r s6 hx9=>?_) fun _ _ z=>z
   obtain ⟨hr,I6⟩:=hx9
   subst hr
   obtain ⟨m6,hn6,_⟩:=I6.loc
   have p6:=I6.pin (D,o) (by simp [aP])
   have p5':=I5.pin (D,o) (by simp [aP])
   have pl6:s6.heap.DictOf (bC X.prog X.w) D its:=pl5.at fun o' e=>p6.1.trans (p5'.1.symm.trans e)
   have IX:Inv X pins σ H5 s6:=I2.call' (ch:=fp) I6.os I6.base I6.hok I6.bare fun b hb=>⟨(f2 b hb).2.2.2.1,(f2 b hb).2.1,(f2 b hb).2.2.2.2.1,(f2 b hb).2.2.2.2.2⟩
   exact hRR C D s6 H5 ys its m6 hCle (Qk _) hDC hn6 I6.free p6.2.1 pl6 v5 z5 IX qn
  ·refine wpAny_mono (T.item (aP X scope (own++frn) C s2 H2 fp) rfl rfl rfl hc i _ s5 σ5 H5 (fun _ _=>False) I5 (stat one fr5) st5 go) (fun r s6 hx9=>?_) fun _ _ z=>z
   obtain ⟨u,hr,h6⟩:=hx9
   subst hr
   refine wpAny_mono h6 (fun _ s7 hx9=>?_) fun _ _ z=>z
   obtain ⟨x,H7,I7,r7,y7,st7,fr7⟩:=hx9
   have I7':=I7.pinned (stat one fr7) (T.obj _ _ st7)
   refine wpAny_mono (hg C s2 H2 fp _ s7 σ5 H7 x u _ I7' r7 (step x H7 y7)) (fun _ s8 hx9=>?_) fun _ _ z=>z
   obtain ⟨σ8,H8,I8,q8⟩:=hx9
   refine wpAny_mono (hi2 C s2 H2 fp _ s8 σ8 H8 _ I8 q8) (fun v2 s9 h9=>wpAny_mono h9 (fun itv s10 h10=>?_) fun _ _ z=>z) fun _ _ z=>z
   obtain ⟨it2,fp2,tn2,J2,H10,e10,I10,T2,st10,f10,w10⟩:=h10
   subst e10
   have DfsX:D∉frs X.stack:=fun z=>by
    rcases Qp.mp (I2.stkSub D z) with e | e
    ·exact Qu _ (Qi I2.lt (by rw [hDg,e]; exact Qk _))
    ·exact I2.nofs (by rw [hDg]; exact Qk _) e
   have p5':=I5.pin (D,o) (by simp [aP])
   have pl10:s10.heap.DictOf (bC X.prog X.w) D its:=by
    have p':=I10.pin (D,o) (by simp [aP])
    exact pl5.at fun o' e=>p'.1.trans (p5'.1.symm.trans e)
   refine wO (Y:=aP X scope (own++frn) C s2 H2 fp) (ps:=jU fp s7.heap) (F:=N) (fun _ _ z=>z) hc T2 (hg2 C s2 H2 fp) (hk C s2 H2 fp) (he C s2 H2 fp) hDC (.inr (by show s2.heap.objs.size<=D; rw [hDg]; exact Qk _)) cD (fun p hp=>by simp [aP] at hp) DfsX
    (fun p hp=>(below p.1 (flt p.1 (nK hp).1)).2) I10 pl10 v5 z5 st10 f10 w10 (fun s' σ' H' zs' its' o' I' pl' v' z' q'=>?_)
   obtain ⟨m',hm,w'⟩:=hN zs' σ' H' q'
   refine ⟨m',hm,i+1,σ',H',zs',its',o',I'.pins_of fun p hp=>?_,pl',v',z',T.keep _ _ _ st7 fun b hb o e=>(I'.pin (b,o) (Qj _ (Ql _ (bY hb e)))).1,fun b hb=>?_,w'⟩
   ·have e:=Qo.mp hp
    subst e
    exact I'.pin _ (Qj _ (Qg ..))
   ·obtain ⟨o,e,d⟩:=T.obj _ _ st7 b hb
    exact (I'.pin (b,o) (Qj _ (Ql _ (bY hb e)))).2.1
 exact codeAny_compStart_dict (loop _ rfl) (T.self X.A 0 _ _ _ st3 (loop _ rfl))
theorem aAV (S:CompOk X scope own fr frn) (hc:X.calm=true) (hi:PI X tg iter wi) (hg:∀ C s0 H0 fp,PG (aP X scope (own++frn) C s0 H0 fp) tg g) (hi2:∀ C s0 H0 fp,PI (aP X scope (own++frn) C s0 H0 fp) tg2 iter2 wi2) (hg2:∀ C s0 H0 fp,PG (aP X scope (own++frn) C s0 H0 fp) tg2 g2)
  (hk:∀ C s0 H0 fp,PE (aP X scope (own++frn) C s0 H0 fp) kx tk) (he:∀ C s0 H0 fp,PE (aP X scope (own++frn) C s0 H0 fp) vx tv) (hs:∀ x,foldedSetIterable iter X.env x=pure x:=by intro _; rfl) (hs2:∀ C x,foldedSetIterable iter2 (compEnvC scope (bZ X.env scope.names []) C X.env) x=pure x:=by intro _ _; rfl) :
  PE X (.DictComp kx vx [⟨tg,iter,[],0⟩,⟨tg2,iter2,[],0⟩] scope pos) (aDC own.length fr wi g wi2 g2 tk tv):=by
 intro pins s σ H Q I h
 obtain ⟨p1,p2,p3,p4,p5,p6,p7⟩:=S.parts
 rw [arm_eval_DictComp]
 refine wpAny_comprehension_free (use:=none) rfl hs (S.clo I) p1 p3 (thn (hi pins s σ H _ I h) fun v s1 h1=>thn h1 fun itv s2 h2=>?_)
 obtain ⟨it,fp,tn,J,H2,e,I2,T,st2,f2,hw⟩:=h2
 subst e
 refine uK (RR:=fun acc C=>compPost (model X.prog X.w) X.A X.xe none (EP X pins σ Q) acc C) (Q:=fun H ys=>∀ p,H p=none->Q (.ref p) (upd H p (.dK ys))) S hc I2 T st2 f2 hg hi2 hg2 hk he hs2 hw ?_
 intro C D s' H' ys its m hC hD hDC hns hHC hHD pl v z IX q
 have cne:∀ a,s2.heap.objs.size<=a->∀ x c,X.env.cells.lookup x=some c->c≠a:=fun a ha x c e z=>by
  obtain ⟨v,w⟩:=I2.cell x c e
  exact Qu _ (Qi w.lt (by rw [z]; exact ha))
 have pne:∀ a,s2.heap.objs.size<=a->∀ p∈X.pn++pins,p.1≠a:=fun a ha p hp z=>Qu _ (Qi (Qm (I2.pin p hp).1) (by rw [z]; exact ha))
 have lne:∀ a,s2.heap.objs.size<=a->a≠X.env.locals:=fun a ha z=>Qu _ (Qi I2.lt (by rw [<- z]; exact ha))
 refine ⟨m,hns,fun h' hs'=>⟨.ref D,upd H' D (.dK ys),?_,rfl,q D hHD⟩⟩
 have IT:Inv X pins σ (upd H' D (.dK ys)) s':=IX.trackD pl v z (beq_eq_false_iff_ne.mpr fun e=>Qu _ (Qi I2.big (by rw [<- e]; exact hD))) hHD (lne D hD) (Qv I2.sz hD) (cne D hD) (pne D hD)
 exact IT.turned (t':=s'.toks) (it:=C) (fun b o hb e=>(hs'.2 b hb).trans e) (by rw [aG (Ne.symm hDC)]; exact hHC) (lne C hC) (.inr (Qv I2.sz hC)) (cne C hC) (pne C hC)
end
section
variable {K:PySem.W.Frag} {own:Nat} {fr:List Nat} {g:TG} {wi2:TI} {g2:TG} {tk tv:TE} {σ:St} {H:Hp} {Q:Hp->List (Key×V)->Prop}
theorem wP {a:Addr} {xs:List V} (Pv:Nat->List (Key×V)->St->Hp->Prop) (h0:Pv 0 [] (blk own fr σ) H) (hl:∀ i ys σ H,Pv i ys σ H->SqL K H a xs)
  (hs:∀ i x ys σ H,xs[i]?=some x->Pv i ys σ H->g x σ H fun σ2 H2=>wi2 σ2 H2 fun J2 H3=>∃ W2:Nat->Nat->List (Key×V)->St->Hp->Prop,(∃ m2,W2 0 m2 ys σ2 H3)/\∀ j m2 zs σ3 H4,W2 j m2 zs σ3 H4->(J2.stop j H4/\Pv (i+1) zs σ3 H4)∨(J2.go j H4/\∃ N2:List (Key×V)->St->Hp->Prop,(∀ zs' σ4 H5,N2 zs' σ4 H5->∃ m3,m3 < m2/\W2 (j+1) m3 zs' σ4 H5) /\
     ∀ x H',J2.yld j H4 x H'->g2 x σ3 H' fun σ4 H5=>tk σ4 H5 fun kx H6=>tv σ4 H6 fun y H7=>∃ k,kx=kV k/\zs.length < sizeLine/\N2 (dZ zs k y) σ4 H7))
  (hd:∀ ys σ H,Pv xs.length ys σ H->Q H ys) :
  ∃ W:Nat->Nat->List (Key×V)->St->Hp->Prop,(∃ m,W 0 m [] (blk own fr σ) H)/\∀ i m ys σ' H,W i m ys σ' H ->
   ((Itl K a).stop i H/\Q H ys) ∨
   ((Itl K a).go i H/\∃ N:List (Key×V)->St->Hp->Prop,(∀ ys' σ2 H2,N ys' σ2 H2->∃ m',m' < m/\W (i+1) m' ys' σ2 H2) /\
    ∀ x H',(Itl K a).yld i H x H'->g x σ' H' fun σ2 H2=>wi2 σ2 H2 fun J2 H3=>∃ W2:Nat->Nat->List (Key×V)->St->Hp->Prop,(∃ m2,W2 0 m2 ys σ2 H3)/\∀ j m2 zs σ3 H4,W2 j m2 zs σ3 H4->(J2.stop j H4/\N zs σ3 H4)∨(J2.go j H4/\∃ N2:List (Key×V)->St->Hp->Prop,(∀ zs' σ4 H5,N2 zs' σ4 H5->∃ m3,m3 < m2/\W2 (j+1) m3 zs' σ4 H5) /\
     ∀ x H',J2.yld j H4 x H'->g2 x σ3 H' fun σ4 H5=>tk σ4 H5 fun kx H6=>tv σ4 H6 fun y H7=>∃ k,kx=kV k/\zs.length < sizeLine/\N2 (dZ zs k y) σ4 H7)):=by
 refine ⟨fun i m ys σ' H=>m=xs.length - i/\i<=xs.length/\Pv i ys σ' H,⟨xs.length,by simp,Jj _,h0⟩,?_⟩
 rintro i m ys σ' H ⟨rfl,hi,p⟩
 have q:=hl _ _ _ _ p
 by_cases hlt:i < xs.length
 ·refine .inr ⟨⟨xs,xs[i],q,Qb hlt⟩,Pv (i+1),fun ys' σ2 H2 p'=>⟨xs.length - (i+1),by omega,rfl,hlt,p'⟩,fun x H' y=>?_⟩
  obtain ⟨e,y⟩:=y
  subst e
  exact hs i x ys σ' _ (y xs q) p
 ·have e:i=xs.length:=by omega
  subst e
  exact .inl ⟨⟨xs,q,Qk _⟩,hd _ _ _ p⟩
theorem uL {b:Addr} {zs:List V} {ys:List (Key×V)} {σ2:St} {H3:Hp} {N:List (Key×V)->St->Hp->Prop} (Pw:Nat->List (Key×V)->St->Hp->Prop) (h0:Pw 0 ys σ2 H3) (hl:∀ j ys σ H,Pw j ys σ H->SqT K H b zs)
  (hs:∀ j z ys σ H,zs[j]?=some z->Pw j ys σ H->g2 z σ H fun σ4 H5=>tk σ4 H5 fun kx H6=>tv σ4 H6 fun y H7=>∃ k,kx=kV k/\ys.length < sizeLine/\Pw (j+1) (dZ ys k y) σ4 H7) (hd:∀ ys σ H,Pw zs.length ys σ H->N ys σ H) :
  ∃ W2:Nat->Nat->List (Key×V)->St->Hp->Prop,(∃ m2,W2 0 m2 ys σ2 H3)/\∀ j m2 zs σ3 H4,W2 j m2 zs σ3 H4->((Itt K b).stop j H4/\N zs σ3 H4)∨((Itt K b).go j H4/\∃ N2:List (Key×V)->St->Hp->Prop,(∀ zs' σ4 H5,N2 zs' σ4 H5->∃ m3,m3 < m2/\W2 (j+1) m3 zs' σ4 H5) /\
     ∀ x H',(Itt K b).yld j H4 x H'->g2 x σ3 H' fun σ4 H5=>tk σ4 H5 fun kx H6=>tv σ4 H6 fun y H7=>∃ k,kx=kV k/\zs.length < sizeLine/\N2 (dZ zs k y) σ4 H7):=by
 refine ⟨fun j m ys σ H=>m=zs.length - j/\j<=zs.length/\Pw j ys σ H,⟨zs.length,by simp,Jj _,h0⟩,?_⟩
 rintro j m ys σ H ⟨rfl,hj,p⟩
 have q:=hl _ _ _ _ p
 by_cases hlt:j < zs.length
 ·refine .inr ⟨⟨zs,zs[j],q,Qb hlt⟩,Pw (j+1),fun ys' σ2 H2 p'=>⟨zs.length - (j+1),by omega,rfl,hlt,p'⟩,fun x H' y=>?_⟩
  obtain ⟨e,y⟩:=y
  subst e
  exact hs j x ys σ _ (y zs q) p
 ·have e:j=zs.length:=by omega
  subst e
  exact .inl ⟨⟨zs,q,Qk _⟩,hd _ _ _ p⟩
end
def aF5:V->List V->Hp->VK->Prop:=fun x vs H Q=>∃ (a:Addr) (kvs:List (Key×V)) (k:Key) (df:V),x=.ref a/\vs = [kV k,df]/\Rd H a (.dK kvs)/\Q ((bK kvs k).getD df) H
theorem uM {X:Cx}:MtR X "dict.get" aF5:=by
 intro pins s σ H x vs v us Q I rx rv h
 obtain ⟨a,kvs,k,df,rfl,rfl,e,q⟩:=h
 cases rx
 obtain ⟨u,ud,rfl,ru,rd⟩:=mL rv
 obtain ⟨z,hd,xs,rel,dd⟩:=wG I.hok e
 exact call_meetsIn PySem.F.slot_dict_get dd.typeIs PySem.F.entry_dict_get (PySem.F.args_dict_get_3 _ _ _) (meets_dict_get_default (bC X.prog X.w) a (qC ru) hd ud) ⟨_,dd.mapOf,_,H,I.tok _,(rel.val k).getD rd,q⟩
section
variable {prog:Program} {w:World} {A:Around} {E:Value->Shared->Prop} {s:Shared} {z TI TO i1 i2 i3 l1 l2 l3:Addr} {n n2 n3:Nat} {P1 P2 P3:Nat->Value->Prop} {st1 st2 st3:Nat->Heap->Prop}
end
structure ZSt3 (k1 k2 k3:Sk) (z TI TO i1 i2 i3 l1 l2 l3:Addr) (i:Nat) (h:Heap):Prop where
 zp:∃ f0 f1,F0 f0/\gA h z TI TO f0 f1
 ti:aEl h TI (.ref i1) (.ref i2) (.ref i3)
 to:∃ x y v,aEl h TO x y v
 a1:ItK k1 h i1 l1 i
 a2:ItK k2 h i2 l2 i
 a3:ItK k3 h i3 l3 i
theorem ZSt3.keep {k1 k2 k3:Sk} {z TI TO i1 i2 i3 l1 l2 l3:Addr} {i:Nat} {h h':Heap} (st:ZSt3 k1 k2 k3 z TI TO i1 i2 i3 l1 l2 l3 i h) (k:∀ c∈[z,TI,TO,i1,i2,i3],∀ o,h.get? c=some o->h'.get? c=some o):ZSt3 k1 k2 k3 z TI TO i1 i2 i3 l1 l2 l3 i h':=by
 obtain ⟨⟨f0,f1,hf,hz⟩,hTI,⟨x,y,v,hTO⟩,h1,h2,h3⟩:=st
 exact ⟨⟨f0,f1,hf,k z (by simp) _ hz⟩,k TI (by simp) _ hTI,⟨x,y,v,k TO (by simp) _ hTO⟩,h1.at fun o e=>k i1 (by simp) o e,h2.at fun o e=>k i2 (by simp) o e,h3.at fun o e=>k i3 (by simp) o e⟩
theorem ZSt3.lt {k1 k2 k3:Sk} {z TI TO i1 i2 i3 l1 l2 l3:Addr} {i:Nat} {h:Heap} (st:ZSt3 k1 k2 k3 z TI TO i1 i2 i3 l1 l2 l3 i h):∀ c∈[z,TI,TO,i1,i2,i3],c < h.objs.size:=by
 intro c hc
 obtain ⟨⟨f0,f1,hf,hz⟩,hTI,⟨x,y,v,hTO⟩,h1,h2,h3⟩:=st
 simp only [Qp,Ja,or_false] at hc
 rcases hc with rfl | rfl | rfl | rfl | rfl | rfl
 ·exact Qm hz
 ·exact Qm hTI
 ·exact Qm hTO
 ·obtain ⟨o,e,_⟩:=h1.obj; exact Qm e
 ·obtain ⟨o,e,_⟩:=h2.obj; exact Qm e
 ·obtain ⟨o,e,_⟩:=h3.obj; exact Qm e
section
variable {X:Cx} {pins:List (Addr×Obj)} {σ:St}
end
section
variable {prog:Program} {w:World} {A:Around} {E:Value->Shared->Prop} {s:Shared}
theorem aAW {f c c':Addr} {q nm vn xn:Str} {params:Arguments} {scope:Scope} {cl:List (Str×Addr)} {pm ctv u:Value} {p1 p2 p3 p4:Pos} {i k:Int} {t t2:Tok} {Q:Value->Shared->Prop} (hroom:A.depth < recursionLimit) (hlim:s.heap.NoLimit)
  (hf:s.heap.get? f=some { cls:=.type "function",data:=.func (PySem.W.kla_fn nm q params (.UnaryOp .USub (.Subscript (.Name vn p1) (.Name xn p2) p3) p4) scope cl pm (.ref c') ctv) }) (hcd:s.heap.CodeRec (.ref c') q)
  (hbind:bindArgs (PySem.W.kla_fn nm q params (.UnaryOp .USub (.Subscript (.Name vn p1) (.Name xn p2) p3) p4) scope cl pm (.ref c') ctv) ⟨[.int i t],[]⟩=pure [(xn,.int i t)])
  (hx:scope.names.lookup xn=some .local) (hv:scope.names.lookup vn=some .free) (hco:scope.isCoroutine=false) (hgen:scope.isGenerator=false) (hk:scope.kind=.function) (hcell:∀ x∈scope.names,x.2≠.cell)
  (hc:cl.lookup vn=some c) (hC:s.heap.IsCell c (some u)) (hI:jV s.heap u i (.int k t2)) (h:∀ h' tk t3,(∀ b o,s.heap.get? b=some o->h'.get? b=some o)->Q (.int (-k) t3) { s with heap:=h',toks:=tk })
  (d1:(vn==("__debug__" : Str))=false) (d2:(vn==("__classdict__" : Str))=false) (d3:(xn==("__debug__" : Str))=false) :
  wpAny (model prog w) A (call (.ref f) [.int i t]) Q E s:=by
 refine wpAny_call (PySem.W.kla_callFunE hroom hf rfl hco hgen rfl hcd ?_)
 rw [hbind]
 refine wpAny_pure (wpAny_newFunctionEnv hcell (fun y hy=>by rw [Qo.mp hy]; exact hx) (fun h₁ hns hsb=>⟨hlim.fresh _ hsb,?_⟩) hk)
 have hk₁:∀ b o,s.heap.get? b=some o->h₁.get? b=some o:=fun b o e=>hsb.extBut b o (Jq (Qm e)) (Qc _ e)
 obtain ⟨oc,hoc,hdc⟩:=hC
 refine PySem.W.kla_codeExpr (UnaryOp_ (aDv (env:=newEnv scope s.heap.objs.size mainGlobals cl (q ++ ".<locals>.") (some f) (.ref c') none builtinsNs) (m:=fun x=>[(xn,Value.int i t)].reverse.lookup x) (t:=t) hk hv hx hc ⟨oc,hk₁ _ _ hoc,hdc⟩ hns ?_ (hI.keeps hk₁) (PyProof.Rows.neg_int (h h₁ _ _ hk₁)) d1 d2 d3))
 simp [List.lookup]
def uN (h:Heap) (L:Addr):List (Addr×Obj):=(List.range h.objs.size).filterMap fun b=>if b=L then none else (h.get? b).map fun o=>(b,o)
theorem kK {h:Heap} {L b:Addr} {o:Obj}:(b,o)∈uN h L↔b≠L/\h.get? b=some o:=by
 unfold uN
 rw [Yv]
 constructor
 ·rintro ⟨x,_,e⟩
  split at e
  ·cases e
  ·rename_i hx
   obtain ⟨o',ho,e⟩:=Qz.mp e
   cases e
   exact ⟨hx,ho⟩
 ·rintro ⟨n,e⟩
  exact ⟨b,Jt.mpr (Qm e),by rw [if_neg n,e]; rfl⟩
end
section
variable {X:Cx} {pins:List (Addr×Obj)} {σ:St} {H:Hp} {s:Shared}
theorem Inv.again {t':Nat} {h':Heap} {m:Str->Option Value} (I:Inv X pins σ H s) (hn:s.heap.Ns X.env.locals m) (hn':h'.Ns X.env.locals m) (k:∀ b u,b≠X.env.locals->s.heap.get? b=some u->h'.get? b=some u):Inv X pins σ H { s with heap:=h',toks:=t' }:=by
 obtain ⟨m0,hn0,hl⟩:=id I.loc
 have cne:=I.cne
 have em:∀ x,m0 x=m x:=fun x=>by
  obtain ⟨o1,es1,ep1,a1,b1,_,d1⟩:=hn0
  obtain ⟨o2,es2,ep2,a2,b2,_,d2⟩:=hn
  rw [a1] at a2; cases a2
  rw [b1] at b2; cases b2
  rw [<- d1,<- d2]
 have tr:HOk X.prog X.w H h':=fun b ob e=>by
  refine (I.hok b ob e).stay (fun c w' hc q=>k c w' ?_ q) (fun _ q=>q) fun _ _ q=>q
  rintro rfl
  rcases hc with rfl | hc
  ·rw [I.free] at e; cases e
  ·rw [I.free] at hc; cases hc
 refine ⟨I.ok,I.os,I.bare,⟨fun b o e n hb hx=>?_,fun b o e n hb hx=>?_,I.base.free,fun b o e hx=>?_,I.base.tups,I.base.frzs,I.base.tbls⟩,⟨_,hn',fun j y v' e1 e2 e3=>?_⟩,fun y c e=>?_,I.free,I.freeC,fun p hp=>?_,tr,I.len⟩
 ·exact k b _ (Jq (Qi (Qm e) I.ok.above)) (I.base.keep b o e n hb hx)
 ·obtain ⟨sl,e1⟩:=I.base.slot b o e n hb hx
  exact ⟨sl,k b _ (Jq (Qi (Qm e) I.ok.above)) e1⟩
 ·obtain ⟨o',e1⟩:=I.base.there b o e hx
  exact ⟨o',k b _ (Jq (Qi (Qm e) I.ok.above)) e1⟩
 ·obtain ⟨u',r',q⟩:=hl j y v' e1 e2 e3
  refine ⟨u',r',?_⟩
  rcases q with ⟨kk,e⟩ | ⟨kk,c,e,o,z1,z2⟩
  ·exact .inl ⟨kk,by rw [<- em]; exact e⟩
  ·exact .inr ⟨kk,c,e,o,k c _ (cne y c e) z1,z2⟩
 ·obtain ⟨w',o,z1,z2⟩:=I.cell y c e
  exact ⟨w',o,k c _ (cne y c e) z1,z2⟩
 ·obtain ⟨e,n,ne,nf,d⟩:=I.pin p hp
  exact ⟨k _ _ ne e,n,ne,nf,d⟩
theorem bW.there {P:Program} {w:World} {H:Hp} {h:Heap} {a:Addr} {o:HO} (x:bW P w H h a o):∃ u,h.get? a=some u:=by
 cases o with
 | lst xs=>obtain ⟨_,_,_,_,e⟩:=x; exact ⟨_,e⟩
 | tup xs=>obtain ⟨_,_,_,_,e⟩:=x; exact ⟨_,e⟩
 | dK kvs=>obtain ⟨_,_,_,_,o,_,_,e,_⟩:=x; exact ⟨_,e⟩
 | dT kvs=>obtain ⟨_,_,_,_,o,_,_,e,_⟩:=x; exact ⟨_,e⟩
 | set S n=>obtain ⟨o,_,_,_,e,_⟩:=x; exact ⟨_,e⟩
 | ins C dx fs=>obtain ⟨_,_,_,e,_⟩:=x; exact ⟨_,e⟩
 | own y=>obtain ⟨_,e⟩:=x; exact ⟨_,e⟩
 | xd fs=>obtain ⟨_,⟨_,_,_,e,_⟩,_⟩:=x; exact ⟨_,e⟩
 | rng lo hi=>obtain ⟨_,_,_,e⟩:=x; exact ⟨_,e⟩
 | frz ob u=>obtain ⟨e,_⟩:=x; exact ⟨_,e⟩
 | tbl ps=>exact ⟨_,(show h.get? a=some _ from x)⟩
 | tab q=>obtain ⟨_,e,_⟩:=x; exact ⟨_,e⟩
 | met f y=>exact ⟨_,(show h.get? a=some _ from x)⟩
 | ext φ=>obtain ⟨p,⟨o,e⟩,st⟩:=x; exact ⟨_,e⟩
theorem Inv.laidN {a:Addr} {o:HO} {t':Nat} {h':Heap} (I:Inv X pins σ H s) (k:∀ b u,s.heap.get? b=some u->h'.get? b=some u) (hp:s.heap.get? a=none) (new:bW X.prog X.w (upd H a o) h' a o) :
  Inv X pins σ (upd H a o) { s with heap:=h',toks:=t' }:=by
 have hn:H a=none:=by
  cases q:H a with
  | none=>rfl
  | some u=>obtain ⟨x,e⟩:=(I.hok a u q).there; rw [hp] at e; cases e
 refine I.un ⟨fun b u q _ _ _=>k b u q,fun b u q _ _ _=>⟨u.slots,k b u q⟩,fun b u q n _=>?_,fun b u q _=>⟨u,k b u q⟩,fun b xs q=>?_,fun b u xs q=>?_,fun b ps q=>⟨#[],?_⟩⟩ fun b u e=>?_
 ·by_cases hb:b=a
  ·rw [hb,hp] at q; cases q
  ·rw [aG hb]; exact n
 ·rw [aG (cT q hn)]; exact q
 ·rw [aG (cT q hn)]; exact q
 ·rw [aG (cT q hn),q]; simp
 ·by_cases hb:b=a
  ·subst hb; rw [aB] at e; cases e; exact new
  ·rw [aG hb] at e
   exact (I.hok b u e).stay (fun c v _ q=>k c v q) (fun c q=>by rw [aG (cT q hn)]; exact q) fun c xs q=>by rw [aG (cT q hn)]; exact q
def aCb (K:PySem.W.Frag) (P:Addr) (q:Str) (iv:Nat) (te:TE):TE:=fun σ H Q=>te σ H fun x H1=>∃ (a:Addr) (ns:List Int) (kf:Int->Int) (u:V),x=.ref a/\SqL K H1 a (ns.map V.int)/\ns.length < 64/\H1 P=some (.tab q)/\σ[iv]?=some (some u)/\(∀ n∈ns,zW K H1 u n (kf n)) /\
 ∀ (p:Addr) (ms:List Int) (H2:Hp),aE H1 H2->H2 p=none->ms.Perm ns->ms.Pairwise (fun x y=>kf y<=kf x)->Q (.ref p) (upd H2 p (.lst (ms.map V.int)))
theorem yK {e:Expr} {te:TE} {p kpos lpos p1 p2 p3 p4 pos:Pos} {params:Arguments} {scope:Scope} {vn xn:Str} {c P:Addr} {q:Str} (iv:Nat) (hc:X.calm=true) (hr:Room 2 X.A) (hg:Gl X "sorted") (hm:X.mg "sorted" = none) (Z:Lm X.K X.mg X.base c P) (hcode:X.env.code=.ref c) (hq:X.env.qual ++ "<lambda>" = q)
  (he:PE X e te) (hN:X.N[iv]?=some vn) (hkv:X.env.kindOf vn=some .cell)
  (hdef:defaultsOf params X.env=([],[]):=by rfl) (hcl:bZ X.env scope.names []=(match X.env.cells.lookup vn with | some c=>[(vn,c)] | none=>[]):=by rfl)
  (hfr:∀ y∈scope.names,y.2=.free->y.1=vn:=by decide +kernel)
  (hbind:∀ (cl:List (Str×Addr)) (pm cdv ctv:Value) (i:Int) (t:Tok),bindArgs (PySem.W.kla_fn "<lambda>" q params (.UnaryOp .USub (.Subscript (.Name vn p1) (.Name xn p2) p3) p4) scope cl pm cdv ctv) ⟨[.int i t],[]⟩=pure [(xn,.int i t)]:=by intro _ _ _ _ _ _; rfl)
  (hx:scope.names.lookup xn=some .local:=by rfl) (hv:scope.names.lookup vn=some .free:=by rfl) (hco:scope.isCoroutine=false:=by rfl) (hgen:scope.isGenerator=false:=by rfl) (hk:scope.kind=.function:=by rfl) (hcell:∀ x∈scope.names,x.2≠.cell:=by decide +kernel)
  (d1:(vn==("__debug__" : Str))=false:=by decide) (d2:(vn==("__classdict__" : Str))=false:=by decide) (d3:(xn==("__debug__" : Str))=false:=by decide)
  (hs1:starEach [e] X.env = [(false,eval e X.env)]:=by rfl) :
  PE X (.Call (.Name "sorted" p) [e] [⟨some "key",.Lambda params (.UnaryOp .USub (.Subscript (.Name vn p1) (.Name xn p2) p3) p4) scope lpos,kpos⟩] pos) (aCb X.K P q iv te):=by
 intro pins s σ H Q I h
 refine wpAny_Call_Name_kw (kF (u:=.builtin "sorted") I hg hm (by decide +kernel) ?_)
 have hpa:PA X [e] (aEg te aFI):=aA he aC hs1
 refine callWith_kw (thn (hpa pos pins s σ H (fun vs H1=>match vs with
   | [x] => ∃ (a : Addr) (ns : List Int) (kf : Int -> Int) (u : V), x = .ref a /\ SqL X.K H1 a (ns.map V.int) /\ ns.length < 64 /\ H1 P = some (.tab q) /\ σ[iv]? = some (some u) /\ (∀ n ∈ ns, zW X.K H1 u n (kf n)) /\
       ∀ (p:Addr) (ms:List Int) (H2:Hp),aE H1 H2->H2 p=none->ms.Perm ns->ms.Pairwise (fun x y=>kf y<=kf x)->Q (.ref p) (upd H2 p (.lst (ms.map V.int)))
   | _=>False) I h) fun us s1 ⟨vs,H1,I1,r1,q1⟩=>?_) (by rw [hs1]; rfl) (by rw [hs1]; rfl)
 match vs,r1,q1 with
 | [x],r1,q1 =>
  obtain ⟨a,ns,kf,u,rfl,hit,h64,hT,hu,hkeys,k⟩:=q1
  obtain ⟨xv,rfl,rx⟩:=jJ r1
  cases rx
  obtain ⟨m1,hns1,hl1⟩:=id I1.loc
  obtain ⟨uv,ru,lk⟩:=hl1 iv vn u hN hu (.inr (.inl hkv))
  obtain ⟨cc,hcc,hIc⟩:∃ cc,X.env.cells.lookup vn=some cc/\s1.heap.IsCell cc (some uv):=by
   rcases lk with ⟨z,_⟩ | ⟨_,z⟩
   ·rw [hkv] at z; cases z
   ·exact z
  have hclo:closureFor scope X.env=pure [(vn,cc)]:=by
   rw [yD fun y hy z=>⟨cc,by rw [hfr y hy z]; exact hcc⟩,hcl,hcc]
  refine kws_cons (aB2 I1 Z hcode hT hq hdef hclo fun f c' ctv pm s2 H2 I2 sm kk hf hcr=>kws_nil ?_)
  show wpAny (model X.prog X.w) X.A (call (.builtin "sorted") [.ref a] [(Str.ofString "key",.ref f)]) _ _ _
  have hit2:=sm.seqL hit
  have hkeys2:∀ n∈ns,zW X.K H2 u n (kf n):=fun n hn=>by
   obtain ⟨h0,h1,a,xs,rfl,z | z,y⟩:=hkeys n hn
   ·exact ⟨h0,h1,a,xs,rfl,.inl (sm.seqT z),y⟩
   ·exact ⟨h0,h1,a,xs,rfl,.inr (sm.seqL z),y⟩
  obtain ⟨c2,oc,cvs,tq,ec,hoc,hdc,hcv⟩:=hcr
  cases ec
  obtain ⟨ocl,hocl,hdcl⟩:s2.heap.IsCell cc (some uv):=by
   obtain ⟨o,ho,hd⟩:=hIc
   have nP:cc≠P:=fun z=>by rw [z] at hcc; have:=I1.freeC _ _ hcc; rw [hT] at this; cases this
   exact ⟨o,kk _ _ nP ho,hd⟩
  obtain ⟨mc,⟨oL,esL,epL,hoL,hdL,rL⟩,hlim⟩:=I2.nolimit
  obtain ⟨m2,hns2,hl2⟩:=id I2.loc
  obtain ⟨oE,esE,epE,hoE,hdE,rE⟩:=id hns2
  have neL:∀ {b:Addr} {o:Obj},s2.heap.get? b=some o->(∀ es ep,o.data≠.dict es ep)->b≠X.env.locals:=fun {b o} e hd z=>by
   rw [z,hoE] at e; cases e
   exact hd _ _ hdE
  have nS:cStatics≠X.env.locals:=fun z=>by
   obtain ⟨mc,⟨oB,_,_,hoB,_⟩,_⟩:=I2.ok.mod.nolimit
   obtain ⟨e1,_⟩:=I2.ok.bs cStatics oB hoB
   have h1:=Qm e1
   have h2:=I2.ok.above
   rw [z] at h1
   exact absurd (Qi h1 h2) (Qu _)
  obtain ⟨its,rv,pl,hz⟩:=I2.list hit2
  have hl:=rv.length
  rw [Qa] at hl
  have hia:IntsAre its ns:=by simpa using kG rv
  have F:Fr (Heap.mk #[] {}) X.env.locals s2.heap m2:=⟨hns2,fun b o e=>by simp [Heap.get?] at e,Jj _⟩
  have N:News (Heap.mk #[] {}) X.env.locals s2.heap (uN s2.heap X.env.locals):=fun pr hpr=>by
   obtain ⟨b,o⟩:=pr
   obtain ⟨n,e⟩:=kK.mp hpr
   exact ⟨e,n,by simp [Heap.get?]⟩
  have kpA:∀ {h':Heap} {own:List (Addr×Obj)},News (Heap.mk #[] {}) X.env.locals h' (uN s2.heap X.env.locals++own)->∀ b o,b≠X.env.locals->s2.heap.get? b=some o->h'.get? b=some o:=fun {h' own} N' b o n e=>(N' (b,o) (Jf _ (kK.mpr ⟨n,e⟩))).1
  refine ksk_sorted (b:=false) (kz:=ns.map fun n=>-(kf n)) (f:=.ref f) F N pl.isList (by rw [Qa]; omega) (by omega) (ksk_s1 _ _) (fun _=>ksk_l1 _ _) (fun _=>ksk_t1 _ _) (fun i v kv hvi hkv2 h4 tk4 own F4 N4=>?_) fun D h' tk out cN F' N' lt ko=>?_
  ·have kp:=kpA N4
   have hni:∃ n t,ns[i]?=some n/\v=.int n t:=by
    obtain ⟨hi,_⟩:=Qd.mp hvi
    obtain ⟨w',ew,rw'⟩:=rv.get (i:=i) (x:=.int (ns[i]'(by omega))) (by rw [Qe,Qb (show i < ns.length by omega)]; rfl)
    rw [hvi] at ew; cases ew
    obtain ⟨t,rfl⟩:=rw'
    exact ⟨_,t,Qb (show i < ns.length by omega),rfl⟩
   obtain ⟨n,t,hn,rfl⟩:=hni
   rw [Qe,hn] at hkv2
   cases hkv2
   obtain ⟨tk,itk⟩:=aDw I2 (hkeys2 _ (Qh hn)) ru
   have it4:jV h4 uv n (.int (kf n) tk):=by
    obtain ⟨p',o',e',ho',hh⟩:=itk.obj
    refine hh _ (kp _ _ (neL ho' ?_) ho')
    obtain ⟨p2,e2,⟨xs2,⟨o2,ho2,_,_,r2⟩,q2⟩ | ⟨xs2,⟨o2,ho2,_,_,r2⟩,q2⟩⟩:=itk
    ·rw [e'] at e2; cases e2
     rw [ho'] at ho2; cases ho2
     exact fun _ _ z=>by rw [r2] at z; cases z
    ·rw [e'] at e2; cases e2
     rw [ho'] at ho2; cases ho2
     exact fun _ _ z=>by rw [r2] at z; cases z
   have rm:X.A.in1.in1.depth < recursionLimit:=(Room.in1 (Room.in1 hr)).depth
   refine aAW (cl:=[(vn,cc)]) (c:=cc) (s:={ s2 with heap:=h4,toks:=tk4 }) rm ⟨mc,⟨oL,esL,epL,kp _ _ nS hoL,hdL,rL⟩,hlim⟩ (kp _ _ (neL hf (fun _ _ z=>by cases z)) hf) ⟨c',oc,cvs,tq,rfl,kp _ _ (neL hoc (fun _ _ z=>by rw [hdc] at z; cases z)) hoc,hdc,hcv⟩ (hbind _ _ _ _ _ _) hx hv hco hgen hk hcell (by simp [List.lookup]) ⟨ocl,kp _ _ (neL hocl (fun _ _ z=>by rw [hdcl] at z; cases z)) hocl,hdcl⟩ it4 (fun h5 tk5 t5 k5=>?_) d1 d2 d3
   obtain ⟨oF,esF,epF,hoF,rF⟩:=F4.ns
   exact ⟨h5,tk5,t5,rfl,rfl,⟨⟨oF,esF,epF,k5 _ _ hoF,rF⟩,fun b o e=>by simp [Heap.get?] at e,Jj _⟩,fun pr hpr=>⟨k5 _ _ (N4 pr hpr).1,(N4 pr hpr).2⟩⟩
  ·have kp:∀ b o,b≠X.env.locals->s2.heap.get? b=some o->h'.get? b=some o:=fun b o n e=>(N' (b,o) (Ql _ (kK.mpr ⟨n,e⟩))).1
   obtain ⟨hD,hDL,_⟩:=N' (D,seqObj "list" out cN) (Qg ..)
   have hDn:s2.heap.get? D=none:=by
    cases q:s2.heap.get? D with
    | none=>rfl
    | some o=>exact absurd (lt (D,o) (kK.mpr ⟨hDL,q⟩)) (Qu _)
   obtain ⟨oN,esN,epN,hoN,_⟩:=id F'.ns
   have hL2:(h'.update X.env.locals fun _=>oE).get? X.env.locals=some oE:=Zb (fun _=>oE) hoN (by cases oE; simp only at hdE; subst hdE; rfl)
   have oth:∀ b,b≠X.env.locals->(h'.update X.env.locals fun _=>oE).get? b=h'.get? b:=fun b n=>Xl _ _ (Ne.symm n)
   obtain ⟨ps,hp,ho,hs⟩:=ko
   have hall:∀ x∈ps,∃ n t,n∈ns/\x=(-(kf n),Value.int n t):=fun x hx=>by
    obtain ⟨i,hi⟩:=Jx.mp (hp.mem_iff.mp hx)
    rw [Zd] at hi
    obtain ⟨h1,h2⟩:=hi
    obtain ⟨hil,_⟩:=Qd.mp h2
    obtain ⟨w',ew,rw'⟩:=rv.get (i:=i) (x:=.int (ns[i]'(by omega))) (by rw [Qe,Qb (show i < ns.length by omega)]; rfl)
    rw [h2] at ew
    obtain ⟨t,e2⟩:=rw'
    have e3:x.2=Value.int (ns[i]'(by omega)) t:=by rw [<- e2]; exact Option.some.inj ew
    rw [Qe,Qb (show i < ns.length by omega)] at h1
    have e1:-(kf (ns[i]'(by omega)))=x.1:=Option.some.inj h1
    exact ⟨_,t,Zx _,by rw [<- e3,e1]⟩
   have hio:IntsAre out.toList (ps.map fun x=>numOf x.2):=by
    rw [ho]
    clear hp ho hs
    induction ps with
    | nil=>exact .nil
    | cons x ps ih =>
     obtain ⟨n,t,_,rfl⟩:=hall x (Qg ..)
     exact .cons n t (ih fun y hy=>hall y (Ql _ hy))
   have hpm:(ps.map fun x=>numOf x.2).Perm ns:=by
    have e1:=hp.map fun x:Int×Value=>numOf x.2
    have e2:((ns.map fun n=>-(kf n)).zip its).map (fun x=>numOf x.2)=ns:=by
     rw [<- hia.nums]
     show List.map (numOf ∘ Prod.snd) _=_
     rw [<- Xy,List.map_snd_zip (by rw [Qa,Qa]; exact Qk _)]
    rw [e2] at e1; exact e1
   have hpw:(ps.map fun x=>numOf x.2).Pairwise fun x y=>kf y<=kf x:=by
    rw [Wi]
    refine hs.imp_of_mem fun {x y} hx hy hxy=>?_
    obtain ⟨n1,t1,_,rfl⟩:=hall x hx
    obtain ⟨n2,t2,_,rfl⟩:=hall y hy
    have:-(kf n1)<=-(kf n2):=by simpa using hxy
    show kf n2<=kf n1
    omega
   have hlen:=hpm.length_eq
   have I3:Inv X pins σ (upd H2 D (.lst ((ps.map fun x=>numOf x.2).map V.int))) { s2 with heap:=h'.update X.env.locals fun _=>oE,toks:=tk } :=
    I2.laidN (fun b o e=>by
     by_cases hb:b=X.env.locals
     ·rw [hb,hoE] at e; rw [hb,hL2]; exact e
     ·rw [oth b hb]; exact kp b o hb e) hDn (show bW X.prog X.w _ _ _ (.lst _) from ⟨by rw [Qa,hlen,sizeLine_eq]; omega,out.toList,cN,tK hio,by rw [oth D hDL]; simpa using hD⟩)
   have I4:=I3.again (t':=tk) (h':=h') (m:=m2) ⟨oE,esE,epE,hL2,hdE,rE⟩ F'.ns fun b o n e=>by rw [<- oth b n]; exact e
   exact ⟨.ref D,_,I4,rfl,k D _ H2 sm (by
    cases q:H2 D with
    | none=>rfl
    | some u=>obtain ⟨x,e⟩:=(I2.hok D u q).there; rw [hDn] at e; cases e) hpm hpw⟩
 | [],_,q1=>exact q1.elim
 | _::_::_,_,q1=>exact q1.elim
end
section
variable {X:Cx}
theorem qL (hc:X.calm=true):fY X (.type "list") (fun xs H Q=>∃ (a:Addr) (lo hi:Int),xs = [.ref a]/\H a=some (.rng lo hi)/\0<=lo/\lo<=1000/\0<=hi/\hi<=1000/\∀ p,H p=none->Q (.ref p) (upd H p (.lst ((qH lo (hi - lo).toNat).map V.int)))):=by
 intro pins s σ H xs us Q I r h
 obtain ⟨a,lo,hi,rfl,ha,l0,l1,h0,h1,q⟩:=h
 obtain ⟨u,rfl,rx⟩:=jJ r
 cases rx
 obtain ⟨t,u,v,e⟩:=I.hok a _ ha
 have hn:(hi - lo).toNat<=1000:=by omega
 have hsz:Builtin.Range.rangeSize lo hi 1=((hi - lo).toNat:Int):=by rw [rangeSize_one]; split <;> omega
 have hsm:Builtin.Range.small lo hi 1=true:=small_one (by omega) (by omega) (by omega) (by omega)
 generalize (hi - lo).toNat=n at hn hsz q
 refine call_list_range (I.ok.hd hc) e hsm hsz (Qv hn (by decide)) fun h' tk acc' c' kp hl hi=>?_
 have hv:bA ((qH lo n).map V.int) acc'.toList:=by
  obtain ⟨h1,h2⟩:=hi
  refine uC (by unfold qH; simp [h1]) fun j x u hx hu=>?_
  have hj:j < n:=by
   have:=(Qd.mp hu).1
   rw [Array.length_toList,h1] at this
   exact this
  obtain ⟨t,rfl⟩:=h2 j u (by rw [<- Array.getElem?_toList]; exact hu)
  unfold qH at hx
  rw [Qe,Qe,Xj hj] at hx
  have e:V.int (lo+(j:Int))=x:=Option.some.inj hx
  rw [<- e]
  exact ⟨t,by rw [Xz]⟩
 have hlen:((qH lo n).map V.int).length<=sizeLine:=by unfold qH; rw [Qa,Qa,Jp,sizeLine_eq]; omega
 exact ⟨.ref s.heap.objs.size,_,I.laid (t':=tk) kp (Qk _) (show bW X.prog X.w _ h' _ (.lst _) from ⟨hlen,acc'.toList,c',hv,hl⟩),rfl,q _ (I.hok.fresh (Qk _))⟩
end
structure Fn (K:PySem.W.Frag) (mg:Str->Option Value) (x:Str) (st:Stmt) (ps:List Str) (f:Addr) (fd:FuncData):Prop where
 fn:Fun K x x st f fd
 mgx:mg x=some (.ref f)
 kp:PySem.W.keepIn K (.ref f)=true
 bd:tE K fd ps []
theorem bF {X:Cx} {x:Str} {st:Stmt} {ps:List Str} {f:Addr} {fd:FuncData} {k:Nat} {sp:Sp} {p pos:Pos} {e:Expr} {es:List Expr} {t:TA} (G:Fn X.K X.mg x st ps f fd) (ok:FnOk X.prog X.w X.K X.mg X.base CX0 k f fd ps sp) (hr:Room k X.A) (hg:Gl X x) (ha:PA X (e::es) t)
  (hdb:(x==("__debug__" : Str))=false:=by decide) (he:starEach (e::es) X.env=(false,eval e X.env)::starEach es X.env:=by rfl) (hpl:(backTo pos (starEach es X.env)).any (·.1)=false:=by rfl) :
  PE X (.Call (.Name x p) (e::es) [] pos) (aEh sp [] E0 t):=aDb ok hr hg G.mgx G.kp G.bd .nil aFO ha hdb he hpl
structure Bl (mg:Str->Option Value):Prop where
 isinstance:mg "isinstance" = none
 int:mg "int" = none
 bool:mg "bool" = none
 tuple:mg "tuple" = none
 list:mg "list" = none
 len:mg "len" = none
 all:mg "all" = none
 zip:mg "zip" = none
 range:mg "range" = none
 sorted:mg "sorted" = none
 set:mg "set" = none
 sum:mg "sum" = none
 repr:mg "repr" = none
 max:mg "max" = none
 min:mg "min" = none
 any:mg "any" = none
 enumerate:mg "enumerate" = none
 hands:∃ t,mg "MOST_HANDS" = some (.int 6 t)
 works:∃ t,mg "MOST_WORKS" = some (.int 12 t)
 mw:∃ t,mg "MOST_WEIGHT" = some (.int 99 t)
 un:∃ t,mg "UNITS" = some (.int 60 t)
theorem mU:bootBuiltins "isinstance" = some (.builtin "isinstance"):=by decide +kernel
theorem aEm:bootBuiltins "int" = some (.type "int"):=by decide +kernel
theorem aCc:bootBuiltins "bool" = some (.type "bool"):=by decide +kernel
theorem gG:bootBuiltins "tuple" = some (.type "tuple"):=by decide +kernel
theorem aCd:bootBuiltins "list" = some (.type "list"):=by decide +kernel
theorem eZ:bootBuiltins "len" = some (.builtin "len"):=by decide +kernel
theorem aCe:bootBuiltins "all" = some (.builtin "all"):=by decide +kernel
theorem zY:bootBuiltins "range" = some (.type "range"):=by decide +kernel
theorem aF6:bootBuiltins "sum" = some (.builtin "sum"):=by decide +kernel
end L2
namespace Ab
open PySem L2
def top (i:Nat):Stmt:=PySem.Challenge.pw_ablehands_k28_rounded_deals.main.body.getD i (.Pass ⟨0,0,0,0⟩)
abbrev mG:Stmt:=top 7
abbrev qM:Stmt:=top 8
abbrev qN:Stmt:=top 9
abbrev qO:Stmt:=top 10
abbrev yL:Stmt:=top 11
abbrev pA:Stmt:=top 13
abbrev kL:Stmt:=top 14
abbrev zZ:Stmt:=top 15
abbrev aAa:Stmt:=top 16
abbrev qP:Stmt:=top 19
abbrev pB:Stmt:=top 20
abbrev lN:Stmt:=top 22
abbrev wQ:Stmt:=top 23
abbrev kA:Stmt:=top 24
abbrev hX:Stmt:=top 25
abbrev mV:Stmt:=top 27
abbrev uO:Stmt:=top 28
abbrev qQ:Stmt:=top 31
abbrev iR:Stmt:=top 32
abbrev kM:Stmt:=top 33
abbrev nU:Stmt:=top 34
abbrev fO:Stmt:=top 35
abbrev mW:Stmt:=top 37
abbrev gC:Stmt:=top 38
abbrev aAb:Stmt:=top 40
abbrev aAc:Stmt:=top 41
abbrev mX:Stmt:=top 42
abbrev pC:Stmt:=top 43
abbrev aAd:Stmt:=top 44
abbrev aAe:Stmt:=top 45
abbrev mY:Stmt:=top 46
abbrev qR:Stmt:=top 47
abbrev aCf:Stmt:=top 48
abbrev pE:Stmt:=top 49
abbrev lO:Stmt:=top 50
abbrev aE4:Stmt:=top 51
def jO:PyData->Bool
 | .int _=>true
 | _=>false
def jB:PyData->Bool
 | .int i=>decide (1<=i) && decide (i<=6)
 | _=>false
def eX (hands:Int):Int->List PyData->Bool
 | _,[]=>true
 | last,.int i::r=>decide (last < i) && decide (i < hands) && eX hands i r
 | _,_::_=>false
def dE (hands:Int):PyData->Bool
 | .tuple ds=>!ds.isEmpty && eX hands (-1) ds
 | _=>false
def aE5:PyData->PyData->Bool
 | .int h,.tuple ws=>decide (1<=h) && decide (h<=6) && decide (ws.length<=12) && ws.all (dE h)
 | _,_=>false
def cV:PyData->Bool
 | .tuple [dh,dw]=>aE5 dh dw
 | _=>false
section
variable {P:Program} {w:World} {K:PySem.W.Frag} {mg:Str->Option Value} {base:Heap}
def pF (K:PySem.W.Frag):Sp:=fun vs H Q _=>∃ x d,vs = [x]/\Den K H d x/\Q (.bl (jO d)) H
theorem aDD:FnScope ["thing"] ["thing"] (aH mG):=⟨rfl,rfl,rfl,by decide +kernel,rfl,by decide +kernel,by decide +kernel⟩
theorem qT {f:Addr} {fd:FuncData} (G:Fn K mg "is_whole" mG ["thing"] f fd) (B:Bl mg):FnOk P w K mg base CX0 1 f fd ["thing"] (pF K):=by
 refine G.fn.ok aDD (fun vs H Q E h=>?_) (fun cdv A outer s H vs Q E hr h=>?_)
 ·obtain ⟨x,d,rfl,_⟩:=h
  rfl
 ·obtain ⟨x,d,rfl,hd,k⟩:=h
  refine ⟨_,aJ (aY (pO (aQ mO rfl B.isinstance mU (aA (pv 0) (aA (iQ (v:=.ty "int") rfl B.int aEm rfl) aC)))
   (pN (xR (aQ lX rfl B.isinstance mU (aA (pv 0) (aA (iQ (v:=.ty "bool") rfl B.bool aCc rfl) aC))))))),?_⟩
  refine ⟨_,rfl,x,mD d,rfl,hd.kd,_,rfl,?_⟩
  refine gW (fun c=>?_) (fun c=>?_)
  ·refine ⟨_,rfl,x,mD d,rfl,hd.kd,_,rfl,?_⟩
   have e:(!decide (mD d=Kd.bl))=jO d:=by
    cases d <;> first | rfl | (exfalso; simp [mD] at c)
   rw [e]
   exact k
  ·have e:false=jO d:=by
    cases d <;> first | rfl | (exfalso; simp [mD] at c)
   rw [e]
   exact k
def aAf (K:PySem.W.Frag):Sp:=fun vs H Q _=>∃ x d,vs = [x]/\Den K H d x/\Q (.bl (jB d)) H
theorem aDE:FnScope ["thing"] ["thing"] (aH qM):=⟨rfl,rfl,rfl,by decide +kernel,rfl,by decide +kernel,by decide +kernel⟩
theorem aCg {f fW:Addr} {fd fdW:FuncData} (G:Fn K mg "are_hands" qM ["thing"] f fd) (B:Bl mg) (W:Fn K mg "is_whole" mG ["thing"] fW fdW):FnOk P w K mg base CX0 2 f fd ["thing"] (aAf K):=by
 have GW:FnOk P w K mg base CX0 1 fW fdW ["thing"] (pF K):=qT W B
 obtain ⟨t6,h6⟩:=B.hands
 refine G.fn.ok aDE (fun vs H Q E h=>?_) (fun cdv A outer s H vs Q E hr h=>?_)
 ·obtain ⟨x,d,rfl,_⟩:=h
  rfl
 ·obtain ⟨x,d,rfl,hd,k⟩:=h
  refine ⟨_,aJ (aY (pO (bF W GW hr rfl (aA (pv 0) aC))
   (pN (vN sZ sZ aI (pv 0) (lH (v:=.int 6) rfl h6 ⟨t6,rfl⟩))))),?_⟩
  refine ⟨_,rfl,x,d,rfl,hd,_,rfl,?_⟩
  refine gW (fun c=>?_) (fun c=>?_)
  ·obtain ⟨i,rfl⟩:∃ i,d=.int i:=by cases d <;> first | exact ⟨_,rfl⟩ | (exfalso; simp [jO] at c)
   obtain rfl:=dJ.mp hd
   refine ⟨_,rfl,_,_,rfl,rfl,_,rfl,?_⟩
   refine gW (fun c1=>?_) (fun c1=>?_)
   ·refine ⟨_,_,rfl,rfl,?_⟩
    have e:decide (i<=6)=jB (.int i):=by
     show _=(decide (1<=i) && decide (i<=6))
     rw [c1,Zc]
    show Q (.bl (decide (i<=6))) H
    rw [e]; exact k
   ·have e:false=jB (.int i):=by
     show _=(decide (1<=i) && decide (i<=6))
     have c2:decide (1<=i)=false:=by simpa using c1
     rw [c2,Yg]
    rw [e]; exact k
  ·have e:false=jB d:=by cases d <;> first | rfl | (exfalso; simp [jO] at c)
   rw [e]; exact k
theorem iM (h l i:Int) (r:List PyData):eX h l (.int i::r)=(decide (l < i) && decide (i < h) && eX h i r):=by rw [eX]
theorem qU (h l:Int) (d:PyData) (r:List PyData) (n:jO d=false):eX h l (d::r)=false:=by
 cases d <;> first | rfl | (simp [jO] at n)
def aAg (K:PySem.W.Frag):Sp:=fun vs H Q _=>∃ n x d,vs = [.int n,x]/\Den K H d x/\Q (.bl (dE n d)) H
theorem pG:FnScope ["hands", "thing", "last", "hand"] ["hands", "thing"] (aH qN):=⟨rfl,rfl,rfl,by decide +kernel,rfl,by decide +kernel,by decide +kernel⟩
theorem aCh {f fW:Addr} {fd fdW:FuncData} (G:Fn K mg "is_work" qN ["hands", "thing"] f fd) (B:Bl mg) (W:Fn K mg "is_whole" mG ["thing"] fW fdW):FnOk P w K mg base CX0 2 f fd ["hands", "thing"] (aAg K):=by
 have GW:FnOk P w K mg base CX0 1 fW fdW ["thing"] (pF K):=qT W B
 refine G.fn.ok pG (fun vs H Q E h=>?_) (fun cdv A outer s H vs Q E hr h=>?_)
 ·obtain ⟨n,x,d,rfl,_⟩:=h
  rfl
 ·obtain ⟨n,x,d,rfl,hd,k⟩:=h
  refine ⟨_,aF (fF (PW.pt (oI (gX (fZ (aQ fJ rfl B.isinstance mU (aA (pv 1) (aA (iQ (v:=.ty "tuple") rfl B.tuple gG rfl) aC)))))
    (mB (bO sY (aQ aU rfl B.len eZ (aA (pv 1) aC)) aI (cG _))))) (aJ (aY jI)) bX)
   (aF (aT (i:=2) pG.nd rfl (Or.inl rfl) (aBw xW aI))
   (aF (eJ PassesOwn.never rfl (iK (pv 1)) (aL (i:=3) pG.nd rfl (Or.inl rfl))
    (aF (fF (PW.pt (oI (gX (fZ (bF W GW hr rfl (aA (pv 3) aC)))) (oI (bO sZ (pv 3) (pv 2) (cG _)) (mB (bO aFE (pv 3) (pv 0) (cG _)))))) (aJ (aY jI)) bX)
    (aJ (aT (i:=2) pG.nd rfl (Or.inl rfl) (pv 3)))))
   (aJ (aY jI)))),?_⟩
  refine ⟨_,rfl,x,mD d,rfl,hd.kd,_,rfl,?_⟩
  refine gW (fun c=>?_) (fun c=>?_)
  ·-- not a tuple
   refine jY ?_
   have e:false=dE n d:=by
    cases d <;> first | rfl | (exfalso; simp [mD] at c)
   rw [e]; exact k
  ·obtain ⟨ds,rfl⟩:∃ ds,d=.tuple ds:=by cases d <;> first | exact ⟨_,rfl⟩ | (exfalso; simp [mD] at c)
   obtain ⟨a,xs,rfl,ha,hds⟩:=bJ.mp hd
   have hl:=aM hds
   refine ⟨_,rfl,a,xs,rfl,.inr ha,rfl,_,rfl,?_⟩
   refine gW (fun c2=>?_) (fun c2=>?_)
   ·have e:false=dE n (.tuple ds):=by
     have e1:ds = []:=by
      have:(xs.length:Int)=0:=by simpa using c2
      exact Wm.mp (by omega)
     rw [e1]; rfl
    rw [e]; exact k
   ·have hne:ds≠[]:=by
     intro z
     apply c2
     rw [z] at hl
     simp [hl]
    have e0:dE n (.tuple ds)=eX n (-1) ds:=by
     show (!ds.isEmpty && eX n (-1) ds)=_
     cases ds with
     | nil=>exact absurd rfl hne
     | cons _ _=>rfl
    rw [e0] at k
    refine ⟨_,rfl,?_⟩
    refine ⟨_,rfl,a,rfl,⟨xs,ha⟩,aC8 (K:=K) (a:=a) (xs:=xs) (fun i σ H2=>∃ (last:Int) (v:Option V),σ = [some (.int n),some (.ref a),some (.int last),v]/\H2=H/\eX n (-1) ds=eX n last (ds.drop i))
     ⟨-1,none,rfl,rfl,rfl⟩ (fun i σ H2 _ ⟨_,_,_,e,_⟩=>by rw [e]; exact ha) ?_ ?_⟩
    ·rintro i y σ H2 hi ⟨last,v,rfl,rfl,hr2⟩
     obtain ⟨dy,hdy,hden⟩:=iV hds hi
     have hdrop:ds.drop i=dy::ds.drop (i+1):=by
      obtain ⟨hlt,e⟩:=Qd.mp hdy
      rw [Yy hlt,e]
     rw [hdrop] at hr2
     refine ⟨_,rfl,y,dy,rfl,hden,_,rfl,?_⟩
     refine gW (fun c3=>?_) (fun c3=>?_)
     ·refine jY ?_
      have e:false=eX n (-1) ds:=by rw [hr2,qU]; simpa using c3
      rw [e]; exact k
     ·obtain ⟨j,rfl⟩:∃ j,dy=.int j:=by cases dy <;> first | exact ⟨_,rfl⟩ | (exfalso; simp [jO] at c3)
      obtain rfl:=dJ.mp hden
      rw [iM] at hr2
      refine ⟨_,rfl,_,rfl,_,_,rfl,rfl,_,rfl,?_⟩
      refine gW (fun c4=>?_) (fun c4=>?_)
      ·refine jY ?_
       have c4':j<=last:=of_decide_eq_true c4
       have e:false=eX n (-1) ds:=by rw [hr2,decide_eq_false (by omega:¬ last < j)]; rfl
       rw [e]; exact k
      ·have c4':¬ j<=last:=fun z=>c4 (decide_eq_true z)
       refine ⟨_,rfl,_,rfl,_,_,rfl,rfl,_,rfl,?_⟩
       refine gW (fun c5=>?_) (fun c5=>?_)
       ·have c5':n<=j:=of_decide_eq_true c5
        have e:false=eX n (-1) ds:=by rw [hr2,decide_eq_false (by omega:¬ j < n),Bool.and_false]; rfl
        rw [e]; exact k
       ·have c5':¬ n<=j:=fun z=>c5 (decide_eq_true z)
        refine ⟨_,rfl,j,some (.int j),rfl,rfl,?_⟩
        rw [hr2,decide_eq_true (by omega:last < j),decide_eq_true (by omega:j < n)]
        rfl
    ·rintro σ H2 ⟨last,v,rfl,rfl,hr2⟩
     have e:true=eX n (-1) ds:=by
      rw [hr2,hl,List.drop_length]
      rfl
     show Q (.bl true) _
     rw [e]; exact k
theorem jC {i:Nat} {x:V} {σ:St} {H:Hp} {A B:St->Hp->Prop} (h:A (σ.set i (some x)) H):bN i x σ H fun σ2 H2=>aBG σ2 H2 fun b H3=>if b=true then A σ2 H3 else B σ2 H3:=by
 show if true=true then A (σ.set i (some x)) H else B (σ.set i (some x)) H
 exact jY h
def aAh (K:PySem.W.Frag):Sp:=fun vs H Q _=>∃ x d,vs = [x]/\Den K H d x/\∀ H',aE H H'->Q (.bl (cV d)) H'
theorem uP:FnScope ["thing", "hands", "works"] ["thing"] (aH qO):=⟨rfl,rfl,rfl,by decide +kernel,rfl,by decide +kernel,by decide +kernel⟩
theorem aCi {f fW fH fK:Addr} {fd fdW fdH fdK:FuncData} (G:Fn K mg "is_book" qO ["thing"] f fd) (B:Bl mg) (W:Fn K mg "is_whole" mG ["thing"] fW fdW) (GH:Fn K mg "are_hands" qM ["thing"] fH fdH) (GK:Fn K mg "is_work" qN ["hands", "thing"] fK fdK):FnOk P w K mg base CX0 3 f fd ["thing"] (aAh K):=by
 have OH:FnOk P w K mg base CX0 2 fH fdH ["thing"] (aAf K):=aCg GH B W
 have OK:FnOk P w K mg base CX0 2 fK fdK ["hands", "thing"] (aAg K):=aCh GK B W
 obtain ⟨t12,h12⟩:=B.works
 refine G.fn.ok uP (fun vs H Q E h=>?_) (fun cdv A outer s H vs Q E hr h=>?_)
 ·obtain ⟨x,d,rfl,_⟩:=h
  rfl
 ·obtain ⟨x,d,rfl,hd,k⟩:=h
  refine ⟨_,aF (fF (PW.pt (oI (gX (fZ (aQ fJ rfl B.isinstance mU (aA (pv 0) (aA (iQ (v:=.ty "tuple") rfl B.tuple gG rfl) aC)))))
    (mB (bO zO (aQ aU rfl B.len eZ (aA (pv 0) aC)) aI (cG _))))) (aJ (aY jI)) bX)
   (aF (kW (pv 0) (iX rfl (aW (aL (i:=1) uP.nd rfl (Or.inr rfl)) (aW (aL (i:=2) uP.nd rfl (Or.inl rfl)) dF))))
   (aF (fF (gX (fZ (bF GH OH hr rfl (aA (pv 1) aC)))) (aJ (aY jI)) bX)
   (aF (fF (PW.pt (oI (gX (fZ (aQ fJ rfl B.isinstance mU (aA (pv 2) (aA (iQ (v:=.ty "tuple") rfl B.tuple gG rfl) aC)))))
    (mB (bO lV (aQ aU rfl B.len eZ (aA (pv 2) aC)) (lH (v:=.int 12) rfl h12 ⟨t12,rfl⟩) (cG _))))) (aJ (aY jI)) bX)
   (aJ (aY (aQ (pV rfl) rfl B.all aCe (aA
    (cO (own:=["work"]) (fr:=[1]) (frn:=["hands"]) (aX (aH qO) ["thing", "hands", "works"] rfl rfl (by decide +kernel)) rfl (iK (pv 2))
     (fun _ _ _ _=>aL (i:=0) (show (["work", "hands"]:List Str).Nodup by decide +kernel) rfl (Or.inl rfl)) (fun _ _ _ _=>cZ) (fun _ _ _ _=>bF GK OK hr rfl (aA (pv 1) (aA (pv 0) aC)))) aC))))))),?_⟩
  refine ⟨_,rfl,x,mD d,rfl,hd.kd,_,rfl,?_⟩
  refine gW (fun c=>?_) (fun c=>?_)
  ·refine jY ?_
   have e:false=cV d:=by
    cases d <;> first | rfl | (exfalso; simp [mD] at c)
   rw [e]; exact k H (aE.refl H)
  ·obtain ⟨ds,rfl⟩:∃ ds,d=.tuple ds:=by cases d <;> first | exact ⟨_,rfl⟩ | (exfalso; simp [mD] at c)
   obtain ⟨a,xs,rfl,ha,hds⟩:=bJ.mp hd
   have hl:=aM hds
   refine ⟨_,rfl,a,xs,rfl,.inr ha,rfl,_,rfl,?_⟩
   refine gW (fun c2=>?_) (fun c2=>?_)
   ·have e:false=cV (.tuple ds):=by
     match ds,hl,c2 with
     | [],_,_=>rfl
     | [_],_,_=>rfl
     | [_,_],hl,c2=>exfalso; rw [hl] at c2; simp at c2
     | _::_::_::_,_,_=>rfl
    rw [e]; exact k H (aE.refl H)
   ·obtain ⟨dh,dw,rfl⟩:∃ dh dw,ds = [dh,dw]:=by
     match ds,hl,c2 with
     | [],hl,c2=>exfalso; rw [hl] at c2; simp at c2
     | [_],hl,c2=>exfalso; rw [hl] at c2; simp at c2
     | [p,q],_,_=>exact ⟨p,q,rfl⟩
     | p::q::r::t,hl,c2=>exfalso; apply c2; rw [hl]; simp; omega
    obtain ⟨xh,r1,rfl,hh,h2⟩:=aK.mp hds
    obtain ⟨xw,r2,rfl,hw,h3⟩:=aK.mp h2
    obtain rfl:=aN.mp h3
    -- hands,works=thing
    refine ⟨_,rfl,a,_,rfl,ha,rfl,_,_,rfl,_,_,rfl,rfl,?_⟩
    -- are_hands(hands)
    refine ⟨_,rfl,xh,dh,rfl,hh,_,rfl,?_⟩
    refine gW (fun c3=>?_) (fun c3=>?_)
    ·have e:false=cV (.tuple [dh,dw]):=by
      have c3':jB dh=false:=by simpa using c3
      cases dh with
      | int n =>
       cases dw with
       | tuple ws =>
        have c4:(decide (1<=n) && decide (n<=6))=false:=c3'
        show _=(decide (1<=n) && decide (n<=6) && decide (ws.length<=12) && ws.all (dE n))
        rw [c4]; rfl
       | _=>rfl
      | _=>rfl
     rw [e]; exact k H (aE.refl H)
    ·obtain ⟨n,rfl,hn⟩:∃ n,dh=.int n/\(decide (1<=n) && decide (n<=6))=true:=by
      cases dh <;> first | exact ⟨_,rfl,by simpa [jB] using c3⟩ | (exfalso; simp [jB] at c3)
     obtain rfl:=dJ.mp hh
     refine ⟨_,rfl,xw,mD dw,rfl,hw.kd,_,rfl,?_⟩
     refine gW (fun c5=>?_) (fun c5=>?_)
     ·refine jY ?_
      have e:false=cV (.tuple [.int n,dw]):=by
       cases dw <;> first | rfl | (exfalso; simp [mD] at c5)
      rw [e]; exact k H (aE.refl H)
     ·obtain ⟨ws,rfl⟩:∃ ws,dw=.tuple ws:=by cases dw <;> first | exact ⟨_,rfl⟩ | (exfalso; simp [mD] at c5)
      obtain ⟨b,ys,rfl,hb,hws⟩:=bJ.mp hw
      have hlw:=aM hws
      have eB:cV (.tuple [.int n,.tuple ws])=(decide (ws.length<=12) && ws.all (dE n)):=by
       show (decide (1<=n) && decide (n<=6) && decide (ws.length<=12) && ws.all (dE n))=_
       rw [hn,Zc]
      rw [eB] at k
      refine ⟨_,rfl,b,ys,rfl,.inr hb,_,_,rfl,rfl,_,rfl,?_⟩
      refine gW (fun c6=>?_) (fun c6=>?_)
      ·have c6':(12:Int) < ys.length:=of_decide_eq_true c6
       have e:false=(decide (ws.length<=12) && ws.all (dE n)):=by rw [decide_eq_false (by omega:¬ ws.length<=12)]; rfl
       rw [e]; exact k H (aE.refl H)
      ·have c6':¬ (12:Int) < ys.length:=fun z=>c6 (decide_eq_true z)
       have e1:decide (ws.length<=12)=true:=decide_eq_true (by omega)
       rw [e1,Zc] at k
       refine ⟨_,rfl,b,rfl,⟨ys,hb⟩,lB (K:=K) (a:=b) (xs:=ys) (fun σ=>∃ v,σ = [v,some (.int n)]) (fun i zs H2=>H2=H/\zs=((ws.take i).map (dE n)).map V.bl) ?_ ⟨none,rfl⟩ ⟨rfl,rfl⟩ ?_ ?_ ?_ ?_⟩
       ·rw [sizeLine_eq]; omega
       ·rintro i zs H2 ⟨_,rfl⟩
        rw [Qa,Qa,Jk]; omega
       ·rintro i zs H2 ⟨rfl,_⟩
        exact hb
       ·rintro i zs σ x H2 hx ⟨v,rfl⟩ ⟨rfl,rfl⟩ hz
        obtain ⟨dx,hdx,hden⟩:=iV hws hx
        refine jC ?_
        refine ⟨_,rfl,_,rfl,n,x,dx,rfl,hden,hz,⟨some x,rfl⟩,rfl,?_⟩
        rw [Yh,hdx]
        simp
       ·rintro zs H2 ⟨rfl,rfl⟩ p hp
        refine ⟨p,_,rfl,SqL.of aB,?_⟩
        have e2:((ws.take ys.length).map (dE n)).all id=ws.all (dE n):=by
         rw [hlw,Js,Qak]
         rfl
        rw [e2]
        exact k _ (aE.new hp)
end
def eG (l:List Int):PyData:=.tuple (l.map .int)
def cW (n:Int) (ws:List (List Int)):PyData:=.tuple [.int n,.tuple (ws.map eG)]
def aEn (hs:List Int):PyData:=.tuple (hs.map .int)
def aCj:PyData->List Int->Bool
 | .int i,l=>l.any (·==i)
 | _,_=>false
def aF7 (ws:List (List Int)):PyData->Bool
 | .tuple hs=>decide (hs.length=ws.length) && (hs.zip ws).all fun p=>aCj p.1 p.2
 | _=>false
theorem lP (l:List Int):(l.map V.int).all lW=true:=by
 rw [Qak]
 exact Jb.mpr fun _ _=>rfl
theorem aDF (i:Int) (l:List Int):inV (.int i) (l.map V.int)=l.any (·==i):=by
 unfold inV
 rw [Ww]
 rfl
theorem iD {K:PySem.W.Frag} {H:Hp} {n:Int} {ws:List (List Int)} {x:V} (h:Den K H (cW n ws) x):∃ a b ys,x=.ref a/\SqT K H a [.int n,.ref b]/\SqT K H b ys/\aR K H (ws.map eG) ys:=by
 obtain ⟨a,xs,rfl,ha,hds⟩:=bJ.mp h
 obtain ⟨xh,r1,rfl,hh,h2⟩:=aK.mp hds
 obtain ⟨xw,r2,rfl,hw,h3⟩:=aK.mp h2
 obtain rfl:=aN.mp h3
 obtain rfl:=dJ.mp hh
 obtain ⟨b,ys,rfl,hb,hys⟩:=bJ.mp hw
 exact ⟨a,b,ys,rfl,ha,hb,hys⟩
theorem cX {n:Int} {ws:List (List Int)} (h:cV (cW n ws)=true):1<=n/\n<=6/\ws.length<=12/\∀ l∈ws,dE n (eG l)=true:=by
 have h':(decide (1<=n) && decide (n<=6) && decide ((ws.map eG).length<=12) && (ws.map eG).all (dE n))=true:=h
 simp only [Jr,decide_eq_true_eq,Qa,Jb] at h'
 exact ⟨h'.1.1.1,h'.1.1.2,h'.1.2,fun l hl=>h'.2 _ (Jd.mpr ⟨l,hl,rfl⟩)⟩
theorem kN {X:Cx} {pos:Pos} {es:List Expr} {k:Nat} {t:TGs} {n:Nat} {K:PySem.W.Frag} (hK:X.K=K) (hc:X.calm=true) (h:PGs X es t)
  (hn:(assignEach es X.env).length=n:=by rfl) (hst:(assignEach es X.env).findIdx? (·.1)=none:=by rfl):PG X (.Tuple es k pos) (aFw K n t):=by
 subst hK
 exact iX hc h hn hst
section
variable {X:Cx} {K:PySem.W.Frag}
theorem qV (hK:X.K=K):OpR X (compareOp .In) (rIn K false):=by subst hK; exact nM
theorem gQ (hK:X.K=K):IxR X (aFM K):=by subst hK; exact bB
theorem sU (hK:X.K=K):fY X (.builtin "len") (fun xs H Q=>∃ p ys,xs = [.ref p]/\(SqL K H p ys∨SqT K H p ys)/\Q (.int ys.length) H):=by subst hK; exact aU
theorem lD (hK:X.K=K):fY X (.type "tuple") (fun xs H Q=>∃ p ys,xs = [.ref p]/\((SqL K H p ys/\∀ l,H l=none->Q (.ref l) (upd H l (.tup ys)))∨(SqT K H p ys/\Q (.ref p) H))):=by subst hK; exact eV
end
section
variable {P:Program} {w:World} {K:PySem.W.Frag} {mg:Str->Option Value} {base:Heap}
structure Pr (K:PySem.W.Frag) (mg:Str->Option Value) (fW fH fK fB fNB:Addr) (dW dH dK dB dNB:FuncData):Prop where
 W:Fn K mg "is_whole" mG ["thing"] fW dW
 H:Fn K mg "are_hands" qM ["thing"] fH dH
 Kw:Fn K mg "is_work" qN ["hands", "thing"] fK dK
 B:Fn K mg "is_book" qO ["thing"] fB dB
 NB:Fn K mg "need_book" yL ["book"] fNB dNB
variable {fW fH fK fB fNB:Addr} {dW dH dK dB dNB:FuncData}
def aAi (K:PySem.W.Frag):Sp:=fun vs H Q _=>∃ x d,vs = [x]/\Den K H d x/\cV d=true/\∀ H',aE H H'->Q .non H'
theorem aDG:FnScope ["book"] ["book"] (aH yL):=⟨rfl,rfl,rfl,by decide +kernel,rfl,by decide +kernel,by decide +kernel⟩
theorem aCk (B:Bl mg) (R:Pr K mg fW fH fK fB fNB dW dH dK dB dNB):FnOk P w K mg base CX0 4 fNB dNB ["book"] (aAi K):=by
 have OB:FnOk P w K mg base CX0 3 fB dB ["thing"] (aAh K):=aCi R.B B R.W R.H R.Kw
 refine R.NB.fn.ok aDG (fun vs H Q E h=>?_) (fun cdv A outer s H vs Q E hr h=>?_)
 ·obtain ⟨x,d,rfl,_⟩:=h
  rfl
 ·obtain ⟨x,d,rfl,hd,hb,k⟩:=h
  refine ⟨_,aJ (fF (gX (fZ (bF R.B OB hr rfl (aA (pv 0) aC)))) sX bX),?_⟩
  refine ⟨_,rfl,x,d,rfl,hd,fun H' hs=>⟨_,rfl,?_⟩⟩
  rw [hb]
  refine kY ?_
  exact k H' hs
end
theorem gD {n i:Nat} (h:i < n):(aO n)[i]?=some (i:Int):=by
 unfold aO
 rw [Qe,Xj h]
 rfl
theorem bH (n:Nat):(aO n).length=n:=by unfold aO; rw [Qa,Jp]
theorem aCl {X:Cx} {K:PySem.W.Frag} {o e:Expr} {es:List Expr} {to:TE} {t:TA} {name:Str} {apos cpos:Pos} {T id:String} {r:V->List V->Hp->VK->Prop} (hK:X.K=K) (pa:PlainAttrs T) (slot:Slot T name id) (hty:typeOf (.builtin id)=pure (.type "method_descriptor")) (hm:MtR X id r) (ho:PE X o to) (ha:PA X (e::es) t)
  (hbase:attributeBase o name X.env (eval o X.env)=eval o X.env:=by rfl)
  (hfew:((backTo cpos (starEach (e::es) X.env)).all (fun x=>!x.1) && (backToKw cpos (keywordEach [] X.env)).all (fun x=>x.1.isSome)
   && decide ((e::es).length+([]:List Keyword).length+(if ([]:List Keyword).isEmpty then 0 else 1) < 30))=true:=by rfl)
  (hline:(apos.endLine==cpos.line)=true:=by rfl) (hs:starEach (e::es) X.env=(false,eval e X.env)::starEach es X.env:=by rfl) (hplain:(backTo cpos (starEach es X.env)).any (·.1)=false:=by rfl) :
  PE X (.Call (.Attribute o name apos) (e::es) [] cpos) (tBM K T r to t):=by
 subst hK
 exact pS pa slot hty hm ho ha hbase hfew hline hs hplain
section
variable {P:Program} {w:World} {K:PySem.W.Frag} {mg:Str->Option Value} {base:Heap}
variable {fW fH fK fB fNB:Addr} {dW dH dK dB dNB:FuncData}
def aCm (K:PySem.W.Frag) (H:Hp) (x y:V) (n:Int) (ws:List (List Int)) (hs:List Int):Prop:=Den K H (cW n ws) x/\cV (cW n ws)=true/\Den K H (aEn hs) y/\aF7 ws (aEn hs)=true
theorem aCm.same {H H':Hp} {x y:V} {n:Int} {ws:List (List Int)} {hs:List Int} (g:aCm K H x y n ws hs) (e:aE H H'):aCm K H' x y n ws hs:=⟨e.den _ _ g.1,g.2.1,e.den _ _ g.2.2.1,g.2.2.2⟩
theorem aCm.len {H:Hp} {x y:V} {n:Int} {ws:List (List Int)} {hs:List Int} (g:aCm K H x y n ws hs):hs.length<=12/\1<=n/\n<=6:=by
 obtain ⟨h1,h2,h3,_⟩:=cX g.2.1
 have h:(decide ((hs.map PyData.int).length=ws.length) && ((hs.map PyData.int).zip ws).all fun p=>aCj p.1 p.2)=true:=g.2.2.2
 simp only [Jr,decide_eq_true_eq,Qa] at h
 omega
end
def But (t:Addr) (H H':Hp):Prop:=∀ b o,b≠t->H b=some o->H' b=some o
theorem But.refl (t:Addr) (H:Hp):But t H H:=fun _ _ _ h=>h
theorem But.trans {t:Addr} {H H1 H2:Hp} (a:But t H H1) (b:But t H1 H2):But t H H2:=fun c o n h=>b c o n (a c o n h)
theorem But.of {t:Addr} {H H':Hp} (a:aE H H'):But t H H':=fun c o _ h=>a c o h
theorem But.at {t:Addr} {H:Hp} {u:HO}:But t H (upd H t u):=fun c o n h=>by rw [aG n]; exact h
theorem But.free {t:Addr} {H H':Hp} (e:But t H H') {l:Addr} (h:H' l=none) (n:l≠t):H l=none:=by
 cases q:H l with
 | none=>rfl
 | some o=>rw [e l o n q] at h; cases h
theorem But.rdL {t a:Addr} {H H':Hp} {xs:List V} (e:But t H H') (n:a≠t) (h:Rd H a (.lst xs)):Rd H' a (.lst xs):=by
 rcases h with h | ⟨o,h⟩
 ·exact .inl (e a _ n h)
 ·exact .inr ⟨o,e a _ n h⟩
section
variable {K:PySem.W.Frag} {t:Addr} {H H':Hp} {ys:List V}
theorem But.seqT {a:Addr} {xs:List V} (e:But t H H') (ht:H t=some (.lst ys)) (h:SqT K H a xs):SqT K H' a xs:=by
 rcases h with (h | ⟨o,h⟩) | h
 ·exact .inl (.inl (e a _ (fun z=>by rw [z,ht] at h; cases h) h))
 ·exact .inl (.inr ⟨o,e a _ (fun z=>by rw [z,ht] at h; cases h) h⟩)
 ·exact .inr h
theorem But.seqL {a:Addr} {xs:List V} (e:But t H H') (n:a≠t) (h:SqL K H a xs):SqL K H' a xs:=by
 rcases h with h | h
 ·exact .inl (e.rdL n h)
 ·exact .inr h
mutual
def eC:PyData->Bool
 | .dict _=>false
 | .list _=>false
 | .tuple ds=>dO ds
 | _=>true
def dO:List PyData->Bool
 | []=>true
 | d::ds=>eC d && dO ds
end
mutual
theorem But.den (e:But t H H') (ht:H t=some (.lst ys)):∀ (d:PyData) (v:V),eC d=true->Den K H d v->Den K H' d v
 | .none,v,_,h=>by unfold Den at h ⊢; exact h
 | .bool b,v,_,h=>by unfold Den at h ⊢; exact h
 | .int i,v,_,h=>by unfold Den at h ⊢; exact h
 | .str x,v,_,h=>by unfold Den at h ⊢; exact h
 | .list ds,v,n,h=>by unfold eC at n; cases n
 | .tuple ds,v,n,h=>by unfold eC at n; unfold Den at h ⊢; obtain ⟨a,xs,h1,h2,h3⟩:=h; exact ⟨a,xs,h1,e.seqT ht h2,But.denAll e ht ds xs n h3⟩
 | .dict kvs,v,n,h=>by unfold eC at n; cases n
theorem But.denAll (e:But t H H') (ht:H t=some (.lst ys)):∀ (ds:List PyData) (xs:List V),dO ds=true->aR K H ds xs->aR K H' ds xs
 | [],xs,_,h=>by unfold aR at h ⊢; exact h
 | d::ds,xs,n,h=>by
  unfold dO at n; rw [Jr] at n
  unfold aR at h ⊢; obtain ⟨x,r,h1,h2,h3⟩:=h; exact ⟨x,r,h1,But.den e ht d x n.1 h2,But.denAll e ht ds r n.2 h3⟩
end
end
theorem fQ {α:Type} (f:α->PyData) (h:∀ x,eC (f x)=true):∀ l:List α,dO (l.map f)=true
 | []=>by unfold List.map dO; rfl
 | x::r=>by rw [Jg]; unfold dO; rw [h x,fQ f h r]; rfl
theorem yM (i:Int):eC (.int i)=true:=by unfold eC; rfl
theorem iE (l:List Int):eC (eG l)=true:=by unfold eG eC; exact fQ _ yM l
theorem sz1 (x:V) : [x].length<=sizeLine:=by rw [sizeLine_eq]; simp
theorem sz2 (x y:V) : [x,y].length<=sizeLine:=by rw [sizeLine_eq]; simp
theorem bR {n:Nat} (h:n<=1000):n<=sizeLine:=by rw [sizeLine_eq]; omega
def iF (K:PySem.W.Frag) (H:Hp) (t a:Addr) (ns:List Int):Prop:=∃ q:Int,H t=some (.lst [.int q])
theorem iF.same {K:PySem.W.Frag} {H H':Hp} {t a:Addr} {ns:List Int} (h:iF K H t a ns) (e:aE H H'):iF K H' t a ns:=by
 obtain ⟨q,h2⟩:=h
 exact ⟨q,e t _ h2⟩
theorem iF.den {K:PySem.W.Frag} {H H':Hp} {t a:Addr} {ns:List Int} (h:iF K H t a ns) (e:But t H H') {d:PyData} {v:V} (n:eC d=true) (hd:Den K H d v):Den K H' d v:=by
 obtain ⟨q,h2⟩:=h
 exact e.den h2 d v n hd
theorem iF.denAll {K:PySem.W.Frag} {H H':Hp} {t a:Addr} {ns:List Int} (h:iF K H t a ns) (e:But t H H') {ds:List PyData} {vs:List V} (n:dO ds=true) (hd:aR K H ds vs):aR K H' ds vs:=by
 obtain ⟨q,h2⟩:=h
 exact e.denAll h2 ds vs n hd
theorem iF.seqT {K:PySem.W.Frag} {H H':Hp} {t a:Addr} {ns:List Int} (h:iF K H t a ns) (e:But t H H') {b:Addr} {xs:List V} (hd:SqT K H b xs):SqT K H' b xs:=by
 obtain ⟨q,h2⟩:=h
 exact e.seqT h2 hd
theorem iF.ne {K:PySem.W.Frag} {H:Hp} {t a:Addr} {ns:List Int} (h:iF K H t a ns) {b:Addr} (hb:H b=none):b≠t:=by
 obtain ⟨q,h2⟩:=h
 intro z
 rw [z,h2] at hb
 cases hb
theorem iF.wr {K:PySem.W.Frag} {H H':Hp} {t a f:Addr} {ns:List Int} (T:iF K H t a ns) (b:But f H H') (n:t≠f):iF K H' t a ns:=by
 obtain ⟨q,h2⟩:=T
 exact ⟨q,b t _ n h2⟩
section
variable {P:Program} {w:World} {K:PySem.W.Frag} {mg:Str->Option Value} {base:Heap}
theorem jP (ns:List Int):iL (.list (ns.map .int))=true:=by
 unfold iL
 induction ns with
 | nil=>unfold List.map kI; rfl
 | cons n r ih=>rw [Jg]; unfold kI; rw [ih]; unfold iL; rfl
theorem qW {α:Type} (f:α->PyData) (h:∀ x,(f x).canLay0=true):∀ l:List α,PyData.canLayAll0 (l.map f)=true
 | []=>by unfold List.map PyData.canLayAll0; rfl
 | x::r=>by rw [Jg]; unfold PyData.canLayAll0; rw [h x,qW f h r]; rfl
theorem tQ {α:Type} {k:Nat} (f:α->PyData) (h:∀ x,(f x).depth<=k):∀ l:List α,PyData.depthAll (l.map f)<=k
 | []=>by unfold List.map PyData.depthAll; exact Jj _
 | x::r=>by rw [Jg]; unfold PyData.depthAll; exact Nat.max_le.mpr ⟨h x,tQ f h r⟩
theorem yN (i:Int):(PyData.int i).canLay0=true:=by unfold PyData.canLay0; rfl
theorem aAX (i:Int):(PyData.int i).depth<=0:=by unfold PyData.depth; exact Qk _
theorem uQ (ns:List Int):(PyData.list (ns.map .int)).canLay0=true:=by unfold PyData.canLay0; exact qW _ yN ns
theorem wR (ns:List Int):(PyData.list (ns.map .int)).depth<=1:=by unfold PyData.depth; exact Nat.succ_le_succ (tQ _ aAX ns)
theorem aAY {d:PyData} (h1:d.canLay0=true) (h2:d.depth<=64):SeqAt.shaped d=true:=by
 unfold SeqAt.shaped
 rw [h1,decide_eq_true h2]
 rfl
theorem jQ (ns:List Int):SeqAt.shaped (.list (ns.map .int))=true:=aAY (uQ ns) (Qv (wR ns) (by decide))
theorem _root_.L2.Room.u64 {k:Nat} {A:Around} (r:Room k A):A.units+64 < cLine:=by have:=r.un; omega
def aCn (K:PySem.W.Frag):Sp:=fun vs H Q _=>∃ (a:Addr) (ns:List Int) (k:Nat),vs = [.ref a,.int k]/\SqL K H a (ns.map V.int)/\∀ r,Q (.int r) H
theorem aE6:FnScope ["script", "k"] ["script", "k"] (aH aAb):=⟨rfl,rfl,rfl,by decide +kernel,rfl,by decide +kernel,by decide +kernel⟩
theorem aDH {f:Addr} {fd:FuncData} (G:Fn K mg "_law_acell" aAb ["script", "k"] f fd) (B:Bl mg):FnOk P w K mg base CX0 1 f fd ["script", "k"] (aCn K):=by
 refine G.fn.ok aE6 (fun vs H Q E h=>?_) (fun cdv A outer s H vs Q E hr h=>?_)
 ·obtain ⟨a,ns,n,rfl,_⟩:=h
  rfl
 ·obtain ⟨a,ns,n,rfl,ha,k⟩:=h
  refine ⟨_,(aF (fF (bO aBy (pv 1) (aQ aU rfl B.len eZ (aA (pv 0) aC)) (cG _))
   (aJ (aY (aV dG (pv 0) (pv 1) (fun _ _=>rfl))))
   bX)
  (aJ (aY aI))),?_⟩
  refine ⟨_,rfl,_,rfl,a,_,rfl,.inl ha,_,_,rfl,rfl,_,rfl,?_⟩
  rw [Qa]
  refine gW (fun c=>?_) (fun c=>?_)
  ·have hlt:n < ns.length:=by have:=of_decide_eq_true c; omega
   exact ⟨_,rfl,_,rfl,a,_,n,.int ns[n],rfl,rfl,ha,cL (by rw [Qe,Qb hlt]; rfl),k _⟩
  ·exact k _
def aCo (K:PySem.W.Frag):Sp:=fun vs H Q _=>∃ (a:Addr) (ns:List Int) (k:Nat),vs = [.ref a,.int k]/\SqL K H a (ns.map V.int)/\∀ t q,H t=none->Q (.ref t) (upd H t (.lst [.int q]))
theorem lE:FnScope ["script", "k", "cell", "p", "number", "last", "turn"] ["script", "k"] (aH aAc):=⟨rfl,rfl,rfl,by decide +kernel,rfl,by decide +kernel,by decide +kernel⟩
theorem aDI {f fC:Addr} {fd dC:FuncData} (G:Fn K mg "_law_atape" aAc ["script", "k"] f fd) (B:Bl mg) (GC:Fn K mg "_law_acell" aAb ["script", "k"] fC dC):FnOk P w K mg base CX0 2 f fd ["script", "k"] (aCo K):=by
 have OC:FnOk P w K mg base CX0 1 fC dC ["script", "k"] (aCn K):=aDH GC B
 refine G.fn.ok lE (fun vs H Q E h=>?_) (fun cdv A outer s H vs Q E hr h=>?_)
 ·obtain ⟨a,ns,n,rfl,_⟩:=h
  rfl
 ·obtain ⟨a,ns,n,rfl,ha,k⟩:=h
  have r1:Room 1 _:=hr
  refine ⟨_,(aF (aT (i:=2) lE.nd rfl (Or.inl rfl) (bF GC OC r1 rfl (aA (pv 0) (aA (pv 1) aC))))
  (aF (fF (bO sY (aZ mC (pv 2) aI) aI (cG _))
   (aJ (aY (eO (aA (aZ aDa (pv 2) aI) aC))))
   bX)
  (aF (aT (i:=3) lE.nd rfl (Or.inl rfl) aI)
  (aF (aT (i:=4) lE.nd rfl (Or.inl rfl) aI)
  (aF (aT (i:=5) lE.nd rfl (Or.inl rfl) (aZ mC (aZ gN (aZ gN (aZ pP (aZ mC (pv 2) (pv 3)) aI) (aZ pP aI (pv 1))) aI) (pv 3)))
  (aF (eJ PassesOwn.never rfl (cK rfl B.range (aA aI aC)) (aL (i:=6) lE.nd rfl (Or.inl rfl))
   (aF (aT (i:=4) lE.nd rfl (Or.inl rfl) (aZ gN (aZ pP (pv 4) (pv 3)) (pv 5)))
  (aJ (aT (i:=5) lE.nd rfl (Or.inl rfl) (aZ mC (aZ gN (aZ gN (aZ pP (pv 5) (pv 5)) (aZ pP aI (pv 1))) (pv 6)) (pv 3))))))
  (aJ (aY (eO (aA (pv 4) aC)))))))))),?_⟩
  refine ⟨_,rfl,_,rfl,a,ns,n,rfl,ha,fun c=>?_⟩
  refine ⟨_,rfl,_,_,rfl,rfl,(show (0:Int) < _ by decide),rfl,_,rfl,?_⟩
  refine gW (fun c1=>?_) (fun c1=>?_)
  ·exact ⟨_,rfl,_,_,rfl,rfl,⟨by decide,by decide⟩,sz1 _,fun t ht=>k t _ ht⟩
  ·refine ⟨_,rfl,_,rfl,_,_,rfl,rfl,(show (0:Int) < _ by decide),_,_,rfl,rfl,.inr ⟨by decide,by decide⟩,_,rfl,_,_,rfl,rfl,.inl ⟨by decide,by decide⟩,_,_,rfl,rfl,_,_,rfl,rfl,_,rfl,_,_,rfl,rfl,(show (0:Int) < _ by decide),?_⟩
   have b0:0<=((c % 2305843009213693951*48271+69621*(n:Int)+11) % 2305843009213693951:Int)/\((c % 2305843009213693951*48271+69621*(n:Int)+11) % 2305843009213693951:Int) < 2305843009213693951:=⟨Ye _ (by decide),Zm _ (by decide)⟩
   refine ⟨18,rfl,by decide,by decide,iU (lo:=0) (n:=18) (fun i σ H2=>(∃ nu la v6,σ = [some (.ref a),some (.int n),some (.int c),some (.int 2305843009213693951),some (.int nu),some (.int la),v6]/\0<=la/\la < 2305843009213693951)/\H2=H) ⟨⟨0,_,none,rfl,b0.1,b0.2⟩,rfl⟩ ?_ ?_⟩
   ·rintro i σ H2 hi ⟨⟨nu,la,v6,rfl,h0,h1⟩,rfl⟩
    refine ⟨_,rfl,_,rfl,_,_,rfl,rfl,.inr ⟨by decide,by decide⟩,_,rfl,_,_,rfl,rfl,?_⟩
    refine ⟨_,rfl,_,rfl,_,_,rfl,rfl,.inl ⟨by omega,by omega⟩,_,rfl,_,_,rfl,rfl,.inl ⟨by decide,by decide⟩,_,_,rfl,rfl,_,rfl,_,_,rfl,rfl,_,rfl,_,_,rfl,rfl,(show (0:Int) < _ by decide),?_⟩
    exact ⟨⟨_,_,_,rfl,Ye _ (by decide),Zm _ (by decide)⟩,rfl⟩
   ·rintro σ H2 ⟨⟨nu,la,v6,rfl,h0,h1⟩,rfl⟩
    exact ⟨_,rfl,sz1 _,fun t ht=>k t _ ht⟩
def pH (K:PySem.W.Frag):Sp:=fun vs H Q _=>∃ (t a:Addr) (ns:List Int) (m:Int),vs = [.ref t,.int m]/\iF K H t a ns/\0 < m/\m < 1267650600228229401496703205376/\∀ r H',0<=r->r < m->But t H H'->iF K H' t a ns->Q (.int r) H'
theorem wS:FnScope ["tape", "many", "found"] ["tape", "many"] (aH mX):=⟨rfl,rfl,rfl,by decide +kernel,rfl,by decide +kernel,by decide +kernel⟩
theorem aCp {f:Addr} {fd:FuncData} (G:Fn K mg "_law_adigit" mX ["tape", "many"] f fd) (B:Bl mg):FnOk P w K mg base CX0 1 f fd ["tape", "many"] (pH K):=by
 refine G.fn.ok wS (fun vs H Q E h=>?_) (fun cdv A outer s H vs Q E hr h=>?_)
 ·obtain ⟨t,a,ns,m,rfl,_⟩:=h
  rfl
 ·obtain ⟨t,a,ns,m,rfl,⟨q,ht⟩,hm1,hm2,k⟩:=h
  refine ⟨_,(aF (aT (i:=2) wS.nd rfl (Or.inl rfl) (aZ mC (aV dG (pv 0) aI (fun _ _=>rfl)) (pv 1)))
  (aF (kW (aZ aBL (aV dG (pv 0) aI (fun _ _=>rfl)) (pv 1)) (xS (pv 0) aI mM))
  (aJ (aY (pv 2))))),?_⟩
  refine ⟨_,rfl,t,_,0,.int q,rfl,rfl,SqL.of ht,rfl,_,rfl,_,_,rfl,rfl,hm1,?_⟩
  refine ⟨_,rfl,t,_,0,.int q,rfl,rfl,SqL.of ht,rfl,_,rfl,_,_,rfl,rfl,⟨hm1,hm2⟩,_,rfl,t,_,0,0,rfl,rfl,ht,rfl,?_⟩
  exact ⟨_,rfl,k _ _ (Ye _ (by omega)) (Zm _ hm1) But.at ⟨_,aB⟩⟩
theorem wT (n:Int):∀ (l:List Int) (last:Int),(∀ x∈l,last < x)->l.Pairwise (· < ·)->(∀ x∈l,x < n)->eX n last (l.map .int)=true
 | [],_,_,_,_=>rfl
 | x::r,last,h1,h2,h3=>by
  rw [Jg,iM]
  have h2':=Zn.mp h2
  rw [decide_eq_true (h1 x (Qg ..)),decide_eq_true (h3 x (Qg ..)),wT n r x h2'.1 h2'.2 (fun y hy=>h3 y (Ql _ hy))]
  rfl
theorem aAj {n:Int} {l:List Int} (h0:l≠[]) (h1:∀ x∈l,0<=x/\x < n) (h2:l.Pairwise (· < ·)):dE n (eG l)=true:=by
 have e:dE n (eG l)=(!(l.map PyData.int).isEmpty && eX n (-1) (l.map .int)):=rfl
 rw [e,wT n l (-1) (fun x hx=>by have:=(h1 x hx).1; omega) h2 (fun x hx=>(h1 x hx).2)]
 cases l with
 | nil=>exact absurd rfl h0
 | cons _ _=>rfl
theorem oO (n:Int):∀ (l:List Int) (last:Int),eX n last (l.map .int)=true->l.Pairwise (· < ·)/\∀ x∈l,last < x/\x < n
 | [],_,_=>⟨.nil,fun _ h=>by cases h⟩
 | x::r,last,h=>by
  rw [Jg,iM,Jr,Jr] at h
  obtain ⟨⟨h1,h2⟩,h3⟩:=h
  have h1:=of_decide_eq_true h1
  have h2:=of_decide_eq_true h2
  obtain ⟨i1,i2⟩:=oO n r x h3
  refine ⟨Zn.mpr ⟨fun y hy=>(i2 y hy).1,i1⟩,fun y hy=>?_⟩
  rcases Qp.mp hy with rfl | hy
  ·exact ⟨h1,h2⟩
  ·exact ⟨by have:=(i2 y hy).1; omega,(i2 y hy).2⟩
theorem gJ {n:Int} {l:List Int} (h:dE n (eG l)=true):l≠[]/\(∀ x∈l,0<=x/\x < n)/\l.Pairwise (· < ·):=by
 have e:(!(l.map PyData.int).isEmpty && eX n (-1) (l.map .int))=true:=h
 rw [Jr] at e
 obtain ⟨h1,h2⟩:=oO n l (-1) e.2
 refine ⟨fun z=>by rw [z] at e; simp at e,fun x hx=>⟨by have:=(h2 x hx).1; omega,(h2 x hx).2⟩,h1⟩
theorem qX {n:Int}:∀ (l:List Int) (lo:Int),lo<=n->(∀ x∈l,lo<=x/\x < n)->l.Pairwise (· < ·)->(l.length:Int)<=n - lo
 | [],lo,h,_,_=>by simp; omega
 | x::r,lo,h,h1,h2=>by
  have h2':=Zn.mp h2
  have hx:=h1 x (Qg ..)
  have:=qX r (x+1) (by omega) (fun y hy=>⟨by have:=h2'.1 y hy; omega,(h1 y (Ql _ hy)).2⟩) h2'.2
  rw [Jl]
  omega
theorem kO {n:Int} {l:List Int} (hn:0<=n) (h1:∀ x∈l,0<=x/\x < n) (h2:l.Pairwise (· < ·)):(l.length:Int)<=n:=by
 have:=qX l 0 hn h1 h2
 omega
theorem bE {n:Nat} {x:Int}:x∈aO n↔0<=x/\x < n:=by
 unfold aO
 rw [Jd]
 constructor
 ·rintro ⟨i,hi,rfl⟩
  have:=Jt.mp hi
  show 0<=(i:Int)/\(i:Int) < n
  omega
 ·rintro ⟨h1,h2⟩
  exact ⟨x.toNat,Jt.mpr (by omega),by show ((x.toNat:Nat):Int)=x; omega⟩
theorem oP:∀ (a b:List Int),PyData.eqvAll (a.map .int) (b.map .int)=decide (a=b)
 | [],[]=>by simp [PyData.eqvAll]
 | [],_::_=>by simp [PyData.eqvAll]
 | _::_,[]=>by simp [PyData.eqvAll]
 | x::r,y::s=>by
  rw [Jg,Jg,PyData.eqvAll,oP r s,PyData.eqv]
  by_cases h:x=y
  ·by_cases h2:r=s
   ·simp [h,h2]
   ·simp [h,h2]
  ·simp [h]
theorem aAZ (a b:List Int):PyData.eqv (.list (a.map .int)) (.list (b.map .int))=decide (a=b):=by rw [PyData.eqv,oP]
theorem aAk {n:Int} {ws:List (List Int)} (h1:1<=n) (h2:n<=6) (h3:ws.length<=12) (h4:∀ l∈ws,dE n (eG l)=true):cV (cW n ws)=true:=by
 show (decide (1<=n) && decide (n<=6) && decide ((ws.map eG).length<=12) && (ws.map eG).all (dE n))=true
 rw [decide_eq_true h1,decide_eq_true h2,Qa,decide_eq_true h3,Zc,Zc,Zc,Jb]
 intro d hd
 obtain ⟨l,hl,rfl⟩:=Jd.mp hd
 exact h4 l hl
theorem nV {H:Hp} {n:Int} {ws:List (List Int)} {a b:Addr} {ys:List V} (h1:SqT K H a [.int n,.ref b]) (h2:SqT K H b ys) (h3:aR K H (ws.map eG) ys):Den K H (cW n ws) (.ref a) :=
 bJ.mpr ⟨a,_,rfl,h1,aK.mpr ⟨_,_,rfl,dJ.mpr rfl,aK.mpr ⟨_,_,rfl,bJ.mpr ⟨b,ys,rfl,h2,h3⟩,aN.mpr rfl⟩⟩⟩
def aAl (K:PySem.W.Frag):Sp:=fun vs H Q _=>∃ (t a:Addr) (ns:List Int) (hm wm:Int),vs = [.ref t,.int hm,.int wm]/\iF K H t a ns/\1<=hm/\hm<=6/\0<=wm/\wm<=12/\∀ n ws p H',cV (cW n ws)=true->n<=hm->(ws.length:Int)<=wm->But t H H'->iF K H' t a ns->Den K H' (cW n ws) (.ref p)->Q (.ref p) H'
theorem kP:FnScope ["tape", "hands", "works", "n", "often", "found", "k", "able"] ["tape", "hands", "works"] (aH qR):=⟨rfl,rfl,rfl,by decide +kernel,rfl,by decide +kernel,by decide +kernel⟩
theorem aCq {f fD:Addr} {fd fdD:FuncData} (G:Fn K mg "_law_abook" qR ["tape", "hands", "works"] f fd) (B:Bl mg) (GD:Fn K mg "_law_adigit" mX ["tape", "many"] fD fdD) (OD:FnOk P w K mg base CX0 1 fD fdD ["tape", "many"] (pH K)):FnOk P w K mg base CX0 2 f fd ["tape", "hands", "works"] (aAl K):=by
 refine G.fn.ok kP (fun vs H Q E h=>?_) (fun cdv A outer s H vs Q E hr h=>?_)
 ·obtain ⟨t,a,ns,hm,wm,rfl,_⟩:=h
  rfl
 ·obtain ⟨t,a,ns,hm,wm,rfl,hT,hh1,hh6,hw0,hw12,k⟩:=h
  have r1:Room 1 _:=hr
  refine ⟨_,(aF (aT (i:=3) kP.nd rfl (Or.inl rfl) (aZ gN aI (bF GD OD r1 rfl (aA (pv 0) (aA (pv 1) aC)))))
  (aF (aT (i:=4) kP.nd rfl (Or.inr rfl) (aZ gN aI (bF GD OD r1 rfl (aA (pv 0) (aA aI aC)))))
  (aF (aT (i:=5) kP.nd rfl (Or.inl rfl) (eO aC))
  (aF (eJ PassesOwn.never rfl (cK rfl B.range (aA (bF GD OD r1 rfl (aA (pv 0) (aA (aZ gN (pv 2) aI) aC))) aC)) (aL (i:=6) kP.nd rfl (Or.inl rfl))
   (aF (eP (i:=7) (own:=["hand"]) (fr:=[4,0]) (frn:=["often", "tape"]) (aX (aH qR) ["tape", "hands", "works", "n", "often", "found", "k", "able"] rfl rfl (by decide +kernel)) rfl kP.nd rfl rfl rfl (cK rfl B.range (aA (pv 3) aC))
    (fun _ _ _ _=>(aL (i:=0) (show (["hand", "often", "tape"]:List Str).Nodup by decide +kernel) rfl (Or.inl rfl))) (fun _ _ _ _=>kH (bO aBy (bF GD OD r1 rfl (aA (pv 2) (aA aI aC))) (pv 1) (cG _)))
    (fun _ _ _ _=>(pv 0)))
  (aF (fF (bO (aEW hr.u64) (pv 7) (eO aC) (cG _))
   (aJ (aT (i:=7) kP.nd rfl (Or.inl rfl) (eO (aA (bF GD OD r1 rfl (aA (pv 0) (aA (pv 3) aC))) aC))))
   bX)
  (aJ (lI (pS PySem.F.plainAttrs_list PySem.F.slot_list_append PySem.F.type_list_append lL (pv 5) (aA (dY eV rfl B.tuple gG (aA (pv 7) aC)) aC)))))))
  (aJ (aY (cU (aA (pv 3) (aA (dY eV rfl B.tuple gG (aA (pv 5) aC)) aC))))))))),?_⟩
  refine ⟨_,rfl,_,rfl,t,a,ns,hm,rfl,hT,by omega,by omega,fun r H1 hr0 hr1 b1 T1=>⟨_,_,rfl,rfl,?_⟩⟩
  refine ⟨_,rfl,t,a,ns,4,rfl,T1,by decide,by decide,fun kd H2 hk0 hk1 b2 T2=>⟨_,_,rfl,rfl,?_⟩⟩
  refine ⟨bR (Jj _),fun fl hfl=>?_⟩
  have ntf:t≠fl:=fun z=>T2.ne hfl z.symm
  have s3:=aE.new (o:=.lst []) hfl
  have hfl0:H fl=none:=(b1.trans b2).free hfl (Ne.symm ntf)
  have T3:=T2.same s3
  have b03:=b1.trans (b2.trans (But.of s3))
  have hfl3:upd H2 fl (.lst []) fl=some (.lst []):=aB
  generalize hH3:upd H2 fl (.lst [])=H3 at T3 b03 hfl3 ⊢
  refine ⟨_,rfl,_,rfl,_,_,rfl,rfl,t,a,ns,wm+1,rfl,T3,by omega,by omega,fun m H4 hm0 hm1 b4 T4=>?_⟩
  refine ⟨m,rfl,by omega,by omega,iU (lo:=0) (n:=m.toNat) (fun i σ H5=>∃ (ws:List (List Int)) (xs:List V) (v v2:Option V),σ = [some (.ref t),some (.int hm),some (.int wm),some (.int (1+r)),some (.int (1+kd)),some (.ref fl),v,v2]/\ws.length=i /\
   (∀ l∈ws,dE (1+r) (eG l)=true)/\H5 fl=some (.lst xs)/\aR K H5 (ws.map eG) xs/\But t H H5/\iF K H5 t a ns)
   ⟨[],[],none,none,rfl,rfl,fun _ h=>(Ja h).elim,b4 fl _ (Ne.symm ntf) hfl3,aN.mpr rfl,b03.trans b4,T4⟩ ?_ ?_⟩
  ·rintro i σ H5 hi ⟨ws,xs,v,v2,rfl,hl,hw,hx,hd,b5,T5⟩
   have hxl:xs.length=i:=by rw [aM hd,Qa,hl]
   have next:∀ (l:List Int) (p:Addr) (H7:Hp),dE (1+r) (eG l)=true->But t H5 H7->iF K H7 t a ns->SqT K H7 p (l.map V.int) ->
     ∃ xs',H7 fl=some (.lst xs)/\xs'=xs++[.ref p]/\(∀ l2∈ws++[l],dE (1+r) (eG l2)=true)/\aR K (upd H7 fl (.lst xs')) ((ws++[l]).map eG) xs'/\But t H (upd H7 fl (.lst xs'))/\iF K (upd H7 fl (.lst xs')) t a ns:=by
    intro l p H7 hwk b7 T7 hp7
    have hx7:H7 fl=some (.lst xs):=b7 fl _ (Ne.symm ntf) hx
    have hd7:=T5.denAll b7 (fQ _ iE ws) hd
    have b8:But fl H7 (upd H7 fl (.lst (xs++[.ref p]))):=But.at
    refine ⟨_,hx7,rfl,fun l2 hl2=>?_,?_,fun b o nb hb=>?_,T7.wr b8 ntf⟩
    ·rcases Jm.mp hl2 with h | h
     ·exact hw l2 h
     ·rw [Qo.mp h]; exact hwk
    ·rw [Qt]
     exact bV (b8.denAll hx7 _ _ (fQ _ iE ws) hd7) (aK.mpr ⟨_,_,rfl,cM.mpr ⟨p,rfl,b8.seqT hx7 hp7⟩,aN.mpr rfl⟩)
    ·rw [aG (fun z=>by rw [z,hfl0] at hb; cases hb)]
     exact (b5.trans b7) b o nb hb
   refine ⟨_,rfl,1+r,rfl,by omega,by omega,fM (lo:=0) (n:=(1+r).toNat) (fun σ=>∃ v,σ = [v,some (.int (1+kd)),some (.ref t)]) (fun j ys H6=>∃ l:List Int,ys=l.map V.int/\l.Pairwise (· < ·)/\(∀ x∈l,0<=x/\x < j)/\But t H5 H6/\iF K H6 t a ns) (bR (by omega)) ⟨none,rfl⟩
    ⟨[],rfl,.nil,fun _ h=>(Ja h).elim,But.refl t H5,T5⟩ ?_ ?_ ?_⟩
   ·rintro j ys H6 ⟨l,rfl,h1,h2,_⟩
    rw [Qa]
    have:=kO (n:=(j:Int)) (by omega) h2 h1
    omega
   ·rintro j ys σ H6 hj ⟨v,rfl⟩ ⟨l,rfl,h1,h2,b6,T6⟩ hz
    refine ⟨_,rfl,t,a,ns,5,rfl,T6,by decide,by decide,fun r7 H7 _ _ b7 T7=>⟨_,rfl,_,_,rfl,rfl,_,rfl,?_⟩⟩
    refine gW (fun c=>?_) (fun c=>?_)
    ·refine ⟨_,rfl,hz,⟨_,rfl⟩,l++[(j:Int)],by simp,List.pairwise_append.mpr ⟨h1,by simp,fun x hx y hy=>?_⟩,fun x hx=>?_,b6.trans b7,T7⟩
     ·rw [Qo.mp hy]; exact (h2 x hx).2
     ·rcases Jm.mp hx with hx | hx
      ·have:=h2 x hx; omega
      ·rw [Qo.mp hx]; omega
    ·refine ⟨⟨_,rfl⟩,l,rfl,h1,fun x hx=>?_,b6.trans b7,T7⟩
     have:=h2 x hx; omega
   ·rintro ys H6 ⟨l,rfl,h1,h2,b6,T6⟩ ap hap
    have hapt:ap≠t:=T6.ne hap
    have s7:=aE.new (o:=.lst (l.map V.int)) hap
    have e7:upd H6 ap (.lst (l.map V.int)) ap=some (.lst (l.map V.int)):=aB
    have b7:=b6.trans (But.of (t:=t) s7)
    have T7:=T6.same s7
    generalize upd H6 ap (.lst (l.map V.int))=H7 at s7 e7 b7 T7 ⊢
    refine ⟨_,rfl,bR (Jj _),fun z hz=>?_⟩
    have s8:=aE.new (o:=.lst []) hz
    refine ⟨.list (l.map .int),.list (([]:List Int).map .int),tL.mpr ⟨ap,rfl,s8.seqL (SqL.of e7)⟩,tL.mpr ⟨z,rfl,SqL.of aB⟩,jP _,jP _,jQ _,jQ _,_,rfl,?_⟩
    rw [aAZ]
    have e8:=s8 _ _ e7
    have b8:=b7.trans (But.of (t:=t) s8)
    have T8:=T7.same s8
    generalize upd H7 z (.lst [])=H8 at e8 b8 T8 ⊢
    by_cases hln:l = []
    ·rw [decide_eq_true hln]
     refine jY ?_
     refine ⟨_,rfl,_,rfl,t,a,ns,1+r,rfl,T8,by omega,by omega,fun r9 H9 h90 h91 b9 T9=>⟨sz1 _,fun l9 hl9=>?_⟩⟩
     have s10:=aE.new (o:=.lst [.int r9]) hl9
     have b10:=b8.trans (b9.trans (But.of s10))
     have T10:=T9.same s10
     have e10:upd H9 l9 (.lst [.int r9]) l9=some (.lst [.int r9]):=aB
     generalize upd H9 l9 (.lst [.int r9])=H10 at b10 T10 e10 ⊢
     have hx10:=b10 fl _ (Ne.symm ntf) hx
     refine ⟨_,rfl,.inl ⟨rfl,_,SqL.of hx10⟩,_,rfl,l9,_,rfl,.inl ⟨SqL.of e10,fun q hq=>?_⟩⟩
     have s11:=aE.new (o:=.tup [.int r9]) hq
     obtain ⟨xs',n1,n2,n3,n4,n5,n6⟩:=next [r9] q _ (aAj (by simp) (fun y hy=>by rw [Qo.mp hy]; omega) (by simp)) (b10.trans (But.of s11)) (T10.same s11) (SqT.of aB)
     subst n2
     exact ⟨fl,xs,.ref q,rfl,rfl,n1,by rw [sizeLine_eq]; omega,ws++[[r9]],_,_,_,rfl,by rw [Qr,hl]; rfl,n3,aB,n4,n5,n6⟩
    ·rw [decide_eq_false hln]
     refine kY ?_
     have hx8:=b8 fl _ (Ne.symm ntf) hx
     refine ⟨_,rfl,.inl ⟨rfl,_,SqL.of hx8⟩,_,rfl,ap,_,rfl,.inl ⟨SqL.of e8,fun q hq=>?_⟩⟩
     have s11:=aE.new (o:=.tup (l.map V.int)) hq
     obtain ⟨xs',n1,n2,n3,n4,n5,n6⟩:=next l q _ (aAj hln (fun y hy=>by have:=h2 y hy; omega) h1) (b8.trans (But.of s11)) (T8.same s11) (SqT.of aB)
     subst n2
     exact ⟨fl,xs,.ref q,rfl,rfl,n1,by rw [sizeLine_eq]; omega,ws++[l],_,_,_,rfl,by rw [Qr,hl]; rfl,n3,aB,n4,n5,n6⟩
  ·rintro σ H5 ⟨ws,xs,v,v2,rfl,hl,hw,hx,hd,b5,T5⟩
   refine ⟨_,rfl,_,rfl,fl,_,rfl,.inl ⟨SqL.of hx,fun q hq=>⟨sz2 _ _,fun p hp=>?_⟩⟩⟩
   have sm:=(aE.new (o:=.tup xs) hq).trans (aE.new (o:=.tup [.int (1+r),.ref q]) hp)
   refine k (1+r) ws p _ (aAk (by omega) (by omega) (by omega) hw) (by omega) (by omega) (b5.trans (But.of sm)) (T5.same sm) ?_
   refine nV (SqT.of aB) ((aE.new hp).seqT (SqT.of aB)) (sm.denAll _ _ hd)
end
def kQ (s l:List Int):Bool:=l.all fun h=>decide (h∈s)
def eT (hs:List Int):List (List Int):=hs.foldl (fun acc h=>acc++acc.map (·++[h])) [[]]
def iG (hs:List Int):List (List Int):=(eT hs).tail
theorem jW (hs:List Int) (x:Int):eT (hs++[x])=eT hs++(eT hs).map (·++[x]):=by
 unfold eT
 rw [List.foldl_append]
 rfl
theorem jD {p:List Int->Prop} (h0:p []) (h1:∀ l x,p l->p (l++[x])):∀ l,p l:=by
 intro l
 have:∀ r:List Int,p r.reverse:=by
  intro r
  induction r with
  | nil=>exact h0
  | cons x r ih=>rw [Wf]; exact h1 _ _ ih
 have h:=this l.reverse
 rwa [List.reverse_reverse] at h
theorem gE:∀ hs:List Int,eT hs = []::iG hs:=by
 refine jD rfl fun l x ih=>?_
 unfold iG
 rw [jW,ih]
 rfl
theorem gZ (hs:List Int) (x:Int):iG (hs++[x])=iG hs++[x]::(iG hs).map (·++[x]):=by
 have h:=jW hs x
 rw [gE (hs++[x]),gE hs] at h
 rw [Jg,Wp] at h
 injection h
theorem aA0:∀ hs:List Int,∀ h∈hs,[h]∈iG hs:=by
 refine jD (fun h hh=>by cases hh) fun l x ih h hh=>?_
 rw [gZ]
 rcases Jm.mp hh with hh | hh
 ·exact Jf _ (ih h hh)
 ·rw [Qo.mp hh]
  exact Qj _ (Qg ..)
theorem aA1:∀ hs:List Int,(iG hs).length+1=2^hs.length:=by
 refine jD rfl fun l x ih=>?_
 rw [gZ,Qr,Jl,Qa,Qr,Xd,Nat.pow_succ,<- ih]
 omega
theorem oQ:∀ hs:List Int,∀ s∈iG hs,s.length<=hs.length:=by
 refine jD (fun s hs=>by cases hs) fun l x ih s hs=>?_
 rw [gZ] at hs
 rw [Qr,Xd]
 rcases Jm.mp hs with hs | hs
 ·have:=ih s hs; omega
 ·rcases Qp.mp hs with rfl | hs
  ·simp
  ·obtain ⟨s',h1,rfl⟩:=Jd.mp hs
   have:=ih s' h1
   rw [Qr,Xd]
   omega
def bP (a b:Int):Int:=a / (Int.gcd a b:Int)
def bI (a b:Int):Int:=b / (Int.gcd a b:Int)
theorem iS {a b:Int} (hb:0 < b):0 < (Int.gcd a b:Int):=by
 have:=Int.gcd_pos_of_ne_zero_right a (show b≠0 by omega)
 omega
theorem cH:∀ (a b:List Int),aD (a++b)=aD a+aD b
 | [],b=>by show aD b=0+aD b; omega
 | x::a,b=>by
  show x+aD (a++b)=x+aD a+aD b
  rw [cH a b]; omega
theorem cC {α:Type} {f g:α->Int}:∀ {l:List α},(∀ x∈l,f x<=g x)->aD (l.map f)<=aD (l.map g)
 | [],_=>Jw _
 | x::l,h=>by
  show f x+aD (l.map f)<=g x+aD (l.map g)
  have h1:=h x (Qg ..)
  have h2:=cC (l:=l) fun y hy=>h y (Ql _ hy)
  omega
theorem aS {α:Type} {f g:α->Int} {l:List α} (h:∀ x∈l,f x=g x):aD (l.map f)=aD (l.map g):=by
 rw [Yr h]
theorem cS {α:Type} (f g:α->Int):∀ (l:List α),aD (l.map fun x=>f x+g x)=aD (l.map f)+aD (l.map g)
 | []=>rfl
 | x::l=>by
  show f x+g x+aD (l.map fun x=>f x+g x)=f x+aD (l.map f)+(g x+aD (l.map g))
  rw [cS f g l]; omega
theorem dX {α:Type} (c:Int) (f:α->Int):∀ (l:List α),aD (l.map fun x=>c*f x)=c*aD (l.map f)
 | []=>by show (0:Int)=c*0; omega
 | x::l=>by
  show c*f x+aD (l.map fun x=>c*f x)=c*(f x+aD (l.map f))
  rw [dX c f l,Zy]
theorem bL {α:Type} {f:α->Int}:∀ {l:List α},(∀ x∈l,f x=0)->aD (l.map f)=0
 | [],_=>rfl
 | x::l,h=>by
  show f x+aD (l.map f)=0
  rw [h x (Qg ..),bL fun y hy=>h y (Ql _ hy)]; rfl
theorem eU {α:Type} {f:α->Int}:∀ {l:List α},(∀ x∈l,0<=f x)->0<=aD (l.map f)
 | [],_=>Jw _
 | x::l,h=>by
  show 0<=f x+aD (l.map f)
  have h1:=h x (Qg ..)
  have h2:=eU (l:=l) fun y hy=>h y (Ql _ hy)
  omega
theorem hJ {α:Type} {f:α->Int} {y:α}:∀ {l:List α},(∀ x∈l,0<=f x)->y∈l->f y<=aD (l.map f)
 | [],_,h=>by cases h
 | x::l,h,hy=>by
  show f y<=f x+aD (l.map f)
  have h1:=h x (Qg ..)
  have h2:=eU (l:=l) fun y hy=>h y (Ql _ hy)
  rcases Qp.mp hy with rfl | hy
  ·omega
  ·have:=hJ (l:=l) (fun y hy=>h y (Ql _ hy)) hy
   omega
theorem jE {α β:Type} (f:α->β->Int):∀ (l:List α) (m:List β),aD (l.map fun x=>aD (m.map fun y=>f x y))=aD (m.map fun y=>aD (l.map fun x=>f x y))
 | [],m=>(bL fun _ _=>rfl).symm
 | x::l,m=>by
  show aD (m.map fun y=>f x y)+aD (l.map fun x=>aD (m.map fun y=>f x y))=aD (m.map fun y=>f x y+aD (l.map fun x=>f x y))
  rw [jE f l m,cS]
theorem mZ {α:Type} (f:α->Int) (p:α->Bool):∀ l:List α,aD (l.map f)=aD ((l.filter p).map f)+aD ((l.filter fun x=>!p x).map f)
 | []=>rfl
 | x::l=>by
  rw [Qx,Qx]
  show f x+aD (l.map f)=_
  rw [mZ f p l]
  cases p x
  ·show _=aD ((l.filter p).map f)+(f x+aD ((l.filter fun x=>!p x).map f)); omega
  ·show _=f x+aD ((l.filter p).map f)+aD ((l.filter fun x=>!p x).map f); omega
theorem uR {α:Type} (f:α->Int) (p:α->Bool):∀ l:List α,aD (l.map fun x=>if p x=true then f x else 0)=aD ((l.filter p).map f)
 | []=>rfl
 | x::l=>by
  rw [Qx]
  show (if p x=true then f x else 0)+aD (l.map fun x=>if p x=true then f x else 0)=_
  rw [uR f p l]
  cases p x
  ·show 0+_=_; simp
  ·show _=f x+aD ((l.filter p).map f); simp
theorem hU {α:Type} {f:α->Int} {c:Int}:∀ {l:List α},(∀ x∈l,f x=c)->aD (l.map f)=(l.length:Int)*c
 | [],_=>by show (0:Int)=0*c; omega
 | x::l,h=>by
  show f x+aD (l.map f)=((l.length+1:Nat):Int)*c
  rw [h x (Qg ..),hU fun y hy=>h y (Ql _ hy),Yq,Xs]
  show c+_=_+1*c
  omega
theorem iH {α:Type} [DecidableEq α] (c:Int) (y:α):∀ {l:List α},l.Nodup->y∈l->aD (l.map fun x=>if x=y then c else 0)=c
 | [],_,h=>by cases h
 | x::l,nd,h=>by
  show (if x=y then c else 0)+aD (l.map fun x=>if x=y then c else 0)=c
  have nd':=Xa.mp nd
  rcases Qp.mp h with e | h
  ·rw [if_pos e.symm,bL fun z hz=>if_neg (fun q=>nd'.1 (by rw [<- e,<- q]; exact hz))]; omega
  ·rw [if_neg (fun q=>nd'.1 (by rw [q]; exact h)),iH c y nd'.2 h]; omega
def inS (s:List Int) (h:Int):Bool:=decide (h∈s)
theorem fE {s:List Int} {h:Int}:inS s h=true↔h∈s:=decide_eq_true_iff
abbrev bU:=List (List Int×Int)
def wIn (rows:bU) (p:Int->Bool):Int:=aD (rows.map fun r=>if r.1.all p=true then r.2 else 0)
def gB (left:List Int) (p:Int->Bool):Int:=((left.filter p).length:Int)
def eD (left:List Int) (rows:bU):Prop:=∀ r∈rows,r.1≠[]/\(∀ h∈r.1,h∈left)/\0<=r.2
def uS (left:List Int) (rows:bU) (s:List Int) (m:Int):Prop :=
 s≠[]/\s=left.filter (inS s)/\m=wIn rows (inS s)/\∀ p,wIn rows p*s.length<=m*gB left p/\(wIn rows p*s.length=m*gB left p->gB left p<=s.length)
def redu (rows:bU) (s:List Int):bU:=(rows.filter fun r=>!(r.1.all (inS s))).map fun r=>(r.1.filter fun h=>!inS s h,r.2)
def eI:List Int->bU->bU->Prop
 | left,_,[]=>left = []
 | left,rows,b::bs=>uS left rows b.1 b.2/\eI (left.filter fun h=>!inS b.1 h) (redu rows b.1) bs
theorem eD.redu {left:List Int} {rows:bU} {s:List Int} (h:eD left rows):eD (left.filter fun h=>!inS s h) (redu rows s):=fun r hr=>by
 obtain ⟨r0,h0,rfl⟩:=Jd.mp hr
 obtain ⟨h1,h2⟩:=Qy.mp h0
 obtain ⟨a,b,c⟩:=h r0 h1
 refine ⟨fun z=>?_,fun x hx=>?_,c⟩
 ·have:r0.1.all (inS s)=true:=Jb.mpr fun x hx=>by
   cases q:inS s x with
   | true=>rfl
   | false=>exact absurd (show x∈r0.1.filter fun h=>!inS s h from Qy.mpr ⟨hx,by rw [q]; rfl⟩) (by rw [show (r0.1.filter fun h=>!inS s h) = [] from z]; exact Ja)
  rw [this] at h2; cases h2
 ·obtain ⟨x1,x2⟩:=Qy.mp hx
  exact Qy.mpr ⟨b x x1,x2⟩
theorem qY (r:List Int×Int) (rows:bU) (p:Int->Bool):wIn (r::rows) p=(if r.1.all p=true then r.2 else 0)+wIn rows p:=rfl
theorem aDJ {r:List Int×Int} {rows:bU} {s:List Int} (h:r.1.all (inS s)=true):redu (r::rows) s=redu rows s:=by
 unfold redu; rw [Qx,h]; rfl
theorem aCr {r:List Int×Int} {rows:bU} {s:List Int} (h:r.1.all (inS s)=false):redu (r::rows) s=(r.1.filter fun h=>!inS s h,r.2)::redu rows s:=by
 unfold redu; rw [Qx,h]; rfl
theorem tR (s:List Int) (p:Int->Bool):∀ rows:bU,wIn rows (fun h=>inS s h || p h)=wIn rows (inS s)+wIn (redu rows s) p
 | []=>rfl
 | r::rows=>by
  rw [qY,qY,tR s p rows]
  cases q:r.1.all (inS s) with
  | true =>
   rw [aDJ q,if_pos rfl,if_pos (Jb.mpr fun x hx=>by rw [Jb.mp q x hx]; rfl)]
   omega
  | false =>
   rw [aCr q,qY,if_neg (show ¬ (false=true) by decide)]
   have:r.1.all (fun h=>inS s h || p h)=(r.1.filter fun h=>!inS s h).all p:=by
    rw [List.all_filter]
    congr 1
    funext x
    cases inS s x <;> rfl
   rw [this]
   show _+_=_+((if (r.1.filter fun h=>!inS s h).all p=true then r.2 else 0)+_)
   omega
theorem nW {left s:List Int} (h:s=left.filter (inS s)) (p:Int->Bool):gB left (fun h=>inS s h || p h)=s.length+gB (left.filter fun h=>!inS s h) p:=by
 have:∀ l:List Int,((l.filter fun h=>inS s h || p h).length:Int)=((l.filter (inS s)).length:Int)+(((l.filter fun h=>!inS s h).filter p).length:Int):=fun l=>by
  induction l with
  | nil=>rfl
  | cons x l ih =>
   rw [Qx,Qx,Qx]
   cases q:inS s x
   ·cases q2:p x
    ·simp only [Yn,Bool.not_false,if_true,Qx,q2,if_false,Xq]; exact ih
    ·simp only [Yn,Bool.not_false,if_true,Qx,q2,if_false,Xq,Jl]; omega
   ·simp only [Wv,Bool.not_true,if_true,if_false,Xq,Jl]; omega
 unfold gB
 rw [this left,<- h]
theorem aCs {left:List Int} {rows:bU} {s s2:List Int} {m m2:Int} (h1:uS left rows s m) (h2:uS (left.filter fun h=>!inS s h) (redu rows s) s2 m2):m2*s.length < m*s2.length:=by
 obtain ⟨_,a2,a3,a4⟩:=h1
 obtain ⟨b1,b2,b3,_⟩:=h2
 obtain ⟨c1,c2⟩:=a4 fun h=>inS s h || inS s2 h
 have e2:gB (left.filter fun h=>!inS s h) (inS s2)=s2.length:=by unfold gB; rw [<- b2]
 rw [tR,nW a2,<- a3,<- b3,e2] at c1 c2
 have hp:0 < s2.length:=Xb.mpr b1
 rw [Xs,Zy] at c1 c2
 have:¬ (m2*s.length=m*s2.length):=fun z=>by
  have:=c2 (by rw [z])
  omega
 omega
theorem qZ:∀ {bs:bU} {left:List Int} {rows:bU} {s:List Int} {m:Int},uS left rows s m->eI (left.filter fun h=>!inS s h) (redu rows s) bs->∀ b∈bs,b.1≠[]/\b.2*s.length < m*b.1.length
 | [],_,_,_,_,_,_,b,hb=>by cases hb
 | c::bs,left,rows,s,m,h1,h2,b,hb=>by
  have hl:=aCs h1 h2.1
  rcases Qp.mp hb with rfl | hb
  ·exact ⟨h2.1.1,hl⟩
  ·obtain ⟨ih0,ih⟩:=qZ h2.1 h2.2 b hb
   have p1:(0:Int) < c.1.length:=by have:=Xb.mpr h2.1.1; omega
   have p2:(0:Int) < b.1.length:=by have:=Xb.mpr ih0; omega
   have p3:(0:Int) < s.length:=by have:=Xb.mpr h1.1; omega
   refine ⟨ih0,Zu (a:=(c.1.length:Int)) ?_ (Jn p1)⟩
   have t1:b.2*c.1.length*s.length < c.2*b.1.length*s.length:=Xt ih p3
   have t2:c.2*s.length*b.1.length < m*c.1.length*b.1.length:=Xt hl p2
   have e1:b.2*(s.length:Int)*c.1.length=b.2*c.1.length*s.length:=Ju ..
   have e2:c.2*(b.1.length:Int)*s.length=c.2*s.length*b.1.length:=Ju ..
   have e3:m*(b.1.length:Int)*c.1.length=m*c.1.length*b.1.length:=Ju ..
   omega
def bG:bU->Int->Int×Int
 | [],_=>(0,1)
 | b::bs,h=>if inS b.1 h=true then (b.2,(b.1.length:Int)) else bG bs h
def gF (bs:bU) (h:Int):Int:=(bG bs h).1*60 / (bG bs h).2
theorem jR {b:List Int×Int} {bs:bU} {h:Int} (q:inS b.1 h=true):bG (b::bs) h=(b.2,(b.1.length:Int)):=by show (if _ then _ else _)=_; rw [if_pos q]
theorem kB {b:List Int×Int} {bs:bU} {h:Int} (q:inS b.1 h=false):bG (b::bs) h=bG bs h:=by show (if _ then _ else _)=_; rw [if_neg (by rw [q]; decide)]
theorem aE7 {left:List Int} {rows:bU} (ok:eD left rows) (p:Int->Bool):0<=wIn rows p:=eU fun r hr=>by
 have:=(ok r hr).2.2
 split
 ·exact this
 ·exact Jw _
theorem lQ:∀ {bs:bU} {left:List Int} {rows:bU},eI left rows bs->∀ h∈left,∃ b∈bs,h∈b.1/\bG bs h=(b.2,(b.1.length:Int))
 | [],left,rows,hb,h,hh=>by rw [show left = [] from hb] at hh; cases hh
 | b::bs,left,rows,hb,h,hh=>by
  cases q:inS b.1 h with
  | true=>exact ⟨b,Qg ..,fE.mp q,jR q⟩
  | false =>
   obtain ⟨c,c1,c2,c3⟩:=lQ hb.2 h (Qy.mpr ⟨hh,by rw [q]; rfl⟩)
   exact ⟨c,Ql _ c1,c2,(kB q).trans c3⟩
theorem aEo {k:Nat} {m:Int} (h0:0 < k) (h6:k<=6):m*60 / (k:Int)*k=m*60:=by
 have:k=1∨k=2∨k=3∨k=4∨k=5∨k=6:=by omega
 rcases this with rfl | rfl | rfl | rfl | rfl | rfl <;> omega
theorem nB:∀ {bs:bU} {left:List Int} {rows:bU},eD left rows->eI left rows bs->∀ b∈bs,b.1≠[]/\b.1.length<=left.length/\0<=b.2/\∀ h∈b.1,h∈left
 | [],_,_,_,_,b,hb=>by cases hb
 | c::bs,left,rows,ok,h,b,hb=>by
  rcases Qp.mp hb with rfl | hb
  ·obtain ⟨a1,a2,a3,_⟩:=h.1
   refine ⟨a1,?_,by rw [a3]; exact aE7 ok _,fun x hx=>?_⟩
   ·rw [a2]; exact Je _ _
   ·rw [a2] at hx; exact (Qy.mp hx).1
  ·obtain ⟨i1,i2,i3,i4⟩:=nB ok.redu h.2 b hb
   exact ⟨i1,Qv i2 (Je _ _),i3,fun x hx=>(Qy.mp (i4 x hx)).1⟩
def tkr:bU->List Int->List Int
 | [],l=>l
 | b::bs,l=>if l.all (inS b.1)=true then l else tkr bs (l.filter fun h=>!inS b.1 h)
theorem wU (f:List Int×Int->Int) (s:List Int):∀ rows:bU,aD (rows.map f)=aD (rows.map fun r=>if r.1.all (inS s)=true then f r else 0)+aD ((rows.filter fun r=>!(r.1.all (inS s))).map f):=fun rows=>by
 rw [uR,<- mZ]
theorem wV:∀ {bs:bU} {left:List Int} {rows:bU},eI left rows bs->eD left rows->left.length<=6->∀ R:Int->Bool,60*aD (rows.map fun r=>if (tkr bs r.1).all R=true then r.2 else 0)<=aD (left.map fun h=>if R h=true then gF bs h else 0)
 | [],left,rows,hb,ok,_,R=>by
  rw [show left = [] from hb] at ok ⊢
  have:rows = []:=by
   cases rows with
   | nil=>rfl
   | cons r _ =>
    obtain ⟨a,b,_⟩:=ok r (Qg ..)
    cases q:r.1 with
    | nil=>exact absurd q a
    | cons x _=>exact absurd (b x (by rw [q]; exact Qg ..)) Ja
  rw [this]
  exact Jw _
 | b::bs,left,rows,hb,ok,h6,R=>by
  have ih:=wV hb.2 ok.redu (Qv (Je _ _) h6) R
  obtain ⟨a1,a2,a3,a4⟩:=hb.1
  have l6:b.1.length<=6:=by rw [a2]; exact Qv (Je _ _) h6
  have l0:0 < b.1.length:=Xb.mpr a1
  have dv:=aEo (m:=b.2) l0 l6
  -- the works
  have e1:aD (rows.map fun r=>if (tkr (b::bs) r.1).all R=true then r.2 else 0)=wIn rows (fun h=>inS b.1 h && R h)+aD ((redu rows b.1).map fun r=>if (tkr bs r.1).all R=true then r.2 else 0):=by
   rw [wU _ b.1]
   congr 1
   ·unfold wIn
    refine aS fun r _=>?_
    have:r.1.all (fun h=>inS b.1 h && R h)=(r.1.all (inS b.1) && r.1.all R):=by
     induction r.1 with
     | nil=>rfl
     | cons x l ih2=>rw [Yb,Yb,Yb,ih2]; cases inS b.1 x <;> cases R x <;> cases l.all (inS b.1) <;> rfl
    rw [this]
    cases q:r.1.all (inS b.1) with
    | true=>rw [if_pos rfl,show tkr (b::bs) r.1=r.1 by show (if _ then _ else _)=_; rw [if_pos q],Zc]
    | false=>rw [if_neg (by decide),Yg,if_neg (by decide)]
   ·unfold redu
    rw [Xy]
    refine aS fun r hr=>?_
    have q:r.1.all (inS b.1)=false:=by
     have:=(Qy.mp hr).2
     cases z:r.1.all (inS b.1) with
     | true=>rw [z] at this; cases this
     | false=>rfl
    show _=if (tkr bs (r.1.filter fun h=>!inS b.1 h)).all R=true then r.2 else 0
    rw [show tkr (b::bs) r.1=tkr bs (r.1.filter fun h=>!inS b.1 h) by show (if _ then _ else _)=_; rw [if_neg (by rw [q]; decide)]]
  -- the rooms
  have e2:aD (left.map fun h=>if R h=true then gF (b::bs) h else 0)=gB left (fun h=>inS b.1 h && R h)*(b.2*60 / b.1.length)+aD ((left.filter fun h=>!inS b.1 h).map fun h=>if R h=true then gF bs h else 0):=by
   rw [mZ _ (inS b.1)]
   congr 1
   ·rw [uR,List.filter_filter]
    have:(fun a=>R a && inS b.1 a)=fun h=>inS b.1 h && R h:=by funext x; exact Bool.and_comm ..
    rw [this]
    unfold gB
    refine hU fun h hh=>?_
    have q:=(Qy.mp hh).2
    rw [Jr] at q
    unfold gF
    rw [jR q.1]
   ·refine aS fun h hh=>?_
    have q:=(Qy.mp hh).2
    have q':inS b.1 h=false:=by cases z:inS b.1 h with
     | true=>rw [z] at q; cases q
     | false=>rfl
    unfold gF
    rw [kB q']
  rw [e1,e2,Zy]
  have h1:=(a4 fun h=>inS b.1 h && R h).1
  have:60*wIn rows (fun h=>inS b.1 h && R h)<=gB left (fun h=>inS b.1 h && R h)*(b.2*60 / b.1.length):=by
   refine Yt (a:=(b.1.length:Int)) ?_ (by omega)
   rw [Ji,Ji,dv]
   have e3:gB left (fun h=>inS b.1 h && R h)*(b.2*60)=60*(b.2*gB left (fun h=>inS b.1 h && R h)):=by
    rw [Jv b.2 60,<- Ji,Jv _ 60,Ji,Jv _ b.2]
   rw [e3]
   omega
  omega
theorem aAm:∀ {bs:bU} {left:List Int} {rows:bU},eI left rows bs->eD left rows->left.length<=6->60*aD (rows.map (·.2))=aD (left.map (gF bs))
 | [],left,rows,hb,ok,_=>by
  rw [show left = [] from hb] at ok ⊢
  have:rows = []:=by
   cases rows with
   | nil=>rfl
   | cons r _ =>
    obtain ⟨a,b,_⟩:=ok r (Qg ..)
    cases q:r.1 with
    | nil=>exact absurd q a
    | cons x _=>exact absurd (b x (by rw [q]; exact Qg ..)) Ja
  rw [this]
  rfl
 | b::bs,left,rows,hb,ok,h6=>by
  have ih:=aAm hb.2 ok.redu (Qv (Je _ _) h6)
  obtain ⟨a1,a2,a3,_⟩:=hb.1
  have l6:b.1.length<=6:=by rw [a2]; exact Qv (Je _ _) h6
  have l0:0 < b.1.length:=Xb.mpr a1
  have dv:=aEo (m:=b.2) l0 l6
  rw [wU _ b.1 rows,mZ _ (inS b.1) left,Zy]
  have e1:aD (rows.map fun r=>if r.1.all (inS b.1)=true then r.2 else 0)=b.2:=a3.symm
  have e5:aD (b.1.map (gF (b::bs)))=(b.1.length:Int)*(b.2*60 / b.1.length):=hU fun h hh=>by unfold gF; rw [jR (fE.mpr hh)]
  rw [e1,<- a2,e5]
  have e2:aD ((left.filter fun h=>!inS b.1 h).map (gF (b::bs)))=aD ((left.filter fun h=>!inS b.1 h).map (gF bs)):=aS fun h hh=>by
   have q:=(Qy.mp hh).2
   have q':inS b.1 h=false:=by cases z:inS b.1 h with
    | true=>rw [z] at q; cases q
    | false=>rfl
   unfold gF
   rw [kB q']
  have e3:aD ((redu rows b.1).map (·.2))=aD ((rows.filter fun r=>!(r.1.all (inS b.1))).map (·.2)):=by
   unfold redu
   rw [Xy]
   rfl
  rw [e2,<- ih,e3]
  have e4:(b.1.length:Int)*(b.2*60 / b.1.length)=b.2*60:=by rw [Jv]; exact dv
  omega
def iN (x y:Int×Int):Bool:=decide (x.1*y.2 < y.1*x.2)
theorem tS:∀ {bs:bU} {left:List Int} {rows:bU},eI left rows bs->∀ l:List Int,(∀ h∈l,h∈left)->∀ h∈tkr bs l,h∈l/\∀ o∈l,iN (bG bs o) (bG bs h)=false
 | [],left,rows,hb,l,hl,h,hh=>by
  have hm:=hl h hh
  rw [show left = [] from hb] at hm
  cases hm
 | b::bs,left,rows,hb,l,hl,h,hh=>by
  cases q:l.all (inS b.1) with
  | true =>
   have hh':h∈l:=by
    have:tkr (b::bs) l=l:=by show (if _ then _ else _)=_; rw [if_pos q]
    rw [this] at hh; exact hh
   refine ⟨hh',fun o ho=>?_⟩
   rw [jR (Jb.mp q o ho),jR (Jb.mp q h hh')]
   exact decide_eq_false (by show ¬ b.2*_ < b.2*_; omega)
  | false =>
   have hh':h∈tkr bs (l.filter fun h=>!inS b.1 h):=by
    have:tkr (b::bs) l=tkr bs (l.filter fun h=>!inS b.1 h):=by show (if _ then _ else _)=_; rw [if_neg (by rw [q]; decide)]
    rw [this] at hh; exact hh
   obtain ⟨i1,i2⟩:=tS hb.2 (l.filter fun h=>!inS b.1 h) (fun x hx=>by
    obtain ⟨x1,x2⟩:=Qy.mp hx
    exact Qy.mpr ⟨hl x x1,x2⟩) h hh'
   obtain ⟨j1,j2⟩:=Qy.mp i1
   have no:∀ x,(!inS b.1 x)=true->inS b.1 x=false:=fun x hx=>by cases z:inS b.1 x with
    | true=>rw [z] at hx; cases hx
    | false=>rfl
   refine ⟨j1,fun o ho=>?_⟩
   rw [kB (no h j2)]
   cases z:inS b.1 o with
   | false=>rw [kB z]; exact i2 o (Qy.mpr ⟨ho,by rw [z]; rfl⟩)
   | true =>
    rw [jR z]
    obtain ⟨c,c1,_,c3⟩:=lQ hb.2 h (Qy.mpr ⟨hl h j1,j2⟩)
    rw [c3]
    have:=(qZ hb.1 hb.2 c c1).2
    exact decide_eq_false (by show ¬ b.2*(c.1.length:Int) < c.2*(b.1.length:Int); omega)
def cI (f:Int->Int×Int) (able:List Int):List Int:=able.filter fun h=>!(able.any fun o=>iN (f o) (f h))
theorem rA {f:Int->Int×Int} {able:List Int} {h:Int}:h∈cI f able↔h∈able/\∀ o∈able,iN (f o) (f h)=false:=by
 unfold cI
 rw [Qy,Bool.not_eq_true',Wb]
 exact ⟨fun ⟨a,b⟩=>⟨a,fun o ho=>by have:=b o ho; cases z:iN (f o) (f h) with
  | true=>exact absurd z this
  | false=>rfl⟩,fun ⟨a,b⟩=>⟨a,fun o ho=>by rw [b o ho]; decide⟩⟩
theorem yO {bs:bU} {left:List Int} {rows:bU} (hb:eI left rows bs) (ok:eD left rows) (h6:left.length<=6) (R:Int->Bool):60*aD (rows.map fun r=>if (cI (bG bs) r.1).all R=true then r.2 else 0)<=aD (left.map fun h=>if R h=true then gF bs h else 0):=by
 have h1:=wV hb ok h6 R
 have h2:aD (rows.map fun r=>if (cI (bG bs) r.1).all R=true then r.2 else 0)<=aD (rows.map fun r=>if (tkr bs r.1).all R=true then r.2 else 0):=cC fun r hr=>by
  obtain ⟨o1,o2,o3⟩:=ok r hr
  by_cases c:(cI (bG bs) r.1).all R=true
  ·rw [if_pos c,if_pos (Jb.mpr fun h hh=>Jb.mp c h (rA.mpr (tS hb r.1 o2 h hh)))]
   exact Jw _
  ·rw [if_neg c]
   split
   ·exact o3
   ·exact Jw _
 omega
theorem rB:∀ hs:List Int,∀ s∈iG hs,s≠[]:=by
 refine jD (fun s hs=>by cases hs) fun l x ih s hs=>?_
 rw [gZ] at hs
 rcases Jm.mp hs with hs | hs
 ·exact ih s hs
 ·rcases Qp.mp hs with rfl | hs
  ·simp
  ·obtain ⟨s',_,rfl⟩:=Jd.mp hs
   simp
theorem aA2:∀ hs:List Int,∀ s∈iG hs,List.Sublist s hs:=by
 refine jD (fun s hs=>by cases hs) fun l x ih s hs=>?_
 rw [gZ] at hs
 rcases Jm.mp hs with hs | hs
 ·exact (ih s hs).trans (List.sublist_append_left _ _)
 ·rcases Qp.mp hs with rfl | hs
  ·exact List.sublist_append_right _ _
  ·obtain ⟨s',h1,rfl⟩:=Jd.mp hs
   exact (ih s' h1).append (List.Sublist.refl _)
theorem yP (p:Int->Bool):∀ hs:List Int,hs.filter p≠[]->hs.filter p∈iG hs:=by
 refine jD (fun h=>absurd rfl h) fun l x ih h=>?_
 rw [Xu] at h ⊢
 rw [gZ]
 cases q:p x with
 | false =>
  have e : [x].filter p = []:=by rw [Qx,q]; rfl
  rw [e,Xh] at h ⊢
  exact Jf _ (ih h)
 | true =>
  have e : [x].filter p = [x]:=by rw [Qx,q]; rfl
  rw [e]
  refine Qj _ ?_
  by_cases c:l.filter p = []
  ·rw [c]; exact Qg ..
  ·exact Ql _ (Jd.mpr ⟨_,ih c,rfl⟩)
theorem aCt {s:List Int}:∀ {l:List Int},List.Sublist s l->l.Nodup->s=l.filter (inS s):=by
 intro l h nd
 have key:∀ (l s:List Int),List.Sublist s l->l.Nodup->∀ t:List Int,(∀ x,x∈l->(x∈t↔x∈s))->l.filter (inS t)=s:=by
  intro l s h
  induction h with
  | slnil=>intro _ _ _; rfl
  | cons a h ih =>
   intro nd t ht
   have nd':=Xa.mp nd
   have:inS t a=false:=decide_eq_false fun z=>nd'.1 (h.subset ((ht a (Qg ..)).mp z))
   rw [Qx,this]
   exact ih nd'.2 t fun x hx=>ht x (Ql _ hx)
  | cons_cons a h ih =>
   intro nd t ht
   have nd':=Xa.mp nd
   have:inS t a=true:=fE.mpr ((ht a (Qg ..)).mpr (Qg ..))
   rw [Qx,this,if_pos rfl]
   congr 1
   refine ih nd'.2 t fun x hx=>?_
   rw [ht x (Ql _ hx),Qp]
   exact ⟨fun z=>z.resolve_left fun e=>nd'.1 (by rw [<- e]; exact hx),.inr⟩
 exact (key l s h nd s fun _ _=>Iff.rfl).symm
def mH (rows:bU) (done:List (List Int)) (b:List Int) (m:Int):Prop :=
 (done = []/\b = []/\m=0)∨(b∈done/\m=wIn rows (inS b)/\∀ s∈done,wIn rows (inS s)*b.length<=m*s.length/\(wIn rows (inS s)*b.length=m*s.length->s.length<=b.length))
theorem aA3 {rows:bU} {done:List (List Int)} {b s:List Int} {m:Int} (hne:∀ t∈done,t≠[]) (hs:s≠[]) (h:mH rows done b m) :
  (0 < wIn rows (inS s)*b.length - m*s.length∨wIn rows (inS s)*b.length - m*s.length=0/\(b.length:Int) < s.length->mH rows (done++[s]) s (wIn rows (inS s))) /\
  (¬ (0 < wIn rows (inS s)*b.length - m*s.length∨wIn rows (inS s)*b.length - m*s.length=0/\(b.length:Int) < s.length)->mH rows (done++[s]) b m):=by
 have ps:(0:Int) < s.length:=by have:=Xb.mpr hs; omega
 generalize hW:wIn rows (inS s)=W
 rcases h with ⟨rfl,rfl,rfl⟩ | ⟨hb,hm,ha⟩
 ·constructor
  ·intro _
   refine .inr ⟨by simp,hW.symm,fun t ht=>?_⟩
   rw [Zg] at ht
   rw [Qo.mp ht,hW]
   exact ⟨Jw _,fun _=>Qk _⟩
  ·intro c
   refine absurd (.inr ⟨?_,by show ((0:Nat):Int) < _; omega⟩) c
   show W*((0:Nat):Int) - 0*_=0
   omega
 ·have pb:(0:Int) < b.length:=by have:=Xb.mpr (hne b hb); omega
  constructor
  ·intro c
   refine .inr ⟨by simp,hW.symm,fun t ht=>?_⟩
   rcases Jm.mp ht with ht | ht
   ·obtain ⟨h1,h2⟩:=ha t ht
    generalize hT:wIn rows (inS t)=T at h1 h2
    have pt:(0:Int) < t.length:=by have:=Xb.mpr (hne t ht); omega
    -- T/t<=m/b<=W/s
    have k1:T*b.length*s.length<=m*t.length*s.length:=Jo h1 (Jn ps)
    have k2:m*s.length*t.length<=W*b.length*t.length:=Jo (by omega) (Jn pt)
    have e1:T*(b.length:Int)*s.length=T*s.length*b.length:=Ju ..
    have e2:m*(t.length:Int)*s.length=m*s.length*t.length:=Ju ..
    have e3:W*(b.length:Int)*t.length=W*t.length*b.length:=Ju ..
    refine ⟨Yt (a:=(b.length:Int)) (by omega) pb,fun z=>?_⟩
    have z':T*s.length*b.length=W*t.length*b.length:=by rw [z]
    have f2:m*s.length*t.length=W*b.length*t.length:=by omega
    have g2:m*(s.length:Int)=W*b.length:=Zv (by omega) f2
    have f1:T*b.length*s.length=m*t.length*s.length:=by omega
    have g1:T*(b.length:Int)=m*t.length:=Zv (by omega) f1
    have:=h2 g1
    omega
   ·rw [Qo.mp ht,hW]
    exact ⟨Jw _,fun _=>Qk _⟩
  ·intro c
   refine .inr ⟨Jf _ hb,hm,fun t ht=>?_⟩
   rcases Jm.mp ht with ht | ht
   ·exact ha t ht
   ·rw [Qo.mp ht,hW]
    exact ⟨by omega,fun z=>by omega⟩
theorem aDK {left:List Int} {rows:bU} {b:List Int} {m:Int} (nd:left.Nodup) (ok:eD left rows) (hl:left≠[]) (h:mH rows (iG left) b m):uS left rows b m:=by
 rcases h with ⟨h0,_⟩ | ⟨hb,hm,ha⟩
 ·cases left with
  | nil=>exact absurd rfl hl
  | cons x l =>
   have:=aA0 (x::l) x (Qg ..)
   rw [h0] at this; cases this
 ·refine ⟨rB _ _ hb,aCt (aA2 _ _ hb) nd,hm,fun p=>?_⟩
  by_cases c:left.filter p = []
  ·have e1:wIn rows p=0:=bL fun r hr=>if_neg fun z=>by
    obtain ⟨r1,r2,_⟩:=ok r hr
    cases q:r.1 with
    | nil=>exact r1 q
    | cons x t =>
     have hx:x∈r.1:=by rw [q]; exact Qg ..
     have:x∈left.filter p:=Qy.mpr ⟨r2 x hx,Jb.mp z x hx⟩
     rw [c] at this; cases this
   have e2:gB left p=0:=by unfold gB; rw [c]; rfl
   rw [e1,e2]
   exact ⟨by omega,fun _=>by omega⟩
  ·have h1:=ha _ (yP p left c)
   have e:wIn rows (inS (left.filter p))=wIn rows p:=aS fun r hr=>by
    obtain ⟨_,r2,_⟩:=ok r hr
    have:r.1.all (inS (left.filter p))=r.1.all p:=by
     rw [Xm,Jb,Jb]
     exact ⟨fun z x hx=>(Qy.mp (fE.mp (z x hx))).2,fun z x hx=>fE.mpr (Qy.mpr ⟨r2 x hx,z x hx⟩)⟩
    rw [this]
   rw [e] at h1
   exact ⟨h1.1,fun z=>by unfold gB; have:=h1.2 z; omega⟩
theorem jS (n:Nat):(aO n).Nodup:=by
 unfold aO
 rw [Yu,Wi]
 refine List.Pairwise.imp ?_ Wq
 intro a b h z
 exact h (by omega)
theorem gL (n:Nat):aO (n+1)=aO n++[(n:Int)]:=by
 unfold aO
 rw [List.range_succ,Qt]
 rfl
def gM (hl:Nat->Int->Int) (m:Nat) (h:Int):Int:=aD ((List.range m).map fun w=>hl w h)
def yQ (hl:Nat->Int->Int) (n w:Nat):Int:=aD ((aO (n+1)).map (hl w))
def iT (tk:List (List Int)) (w:Nat):List Int:=tk.getD w []
def EdP (tk:List (List Int)) (hl:Nat->Int->Int) (g:Int) (w:Nat) (t:Int):Prop:=w < tk.length/\0 < hl w g/\t∈iT tk w
structure Spr (n:Nat) (tk:List (List Int)) (am:Nat->Int) (rm:Int->Int) (hl:Nat->Int->Int) (room:Int->Int):Prop where
 nn:∀ w h,0<=hl w h
 sup:∀ w h,w < tk.length->0 < hl w h->h=n∨h∈iT tk w
 rows:∀ w,w < tk.length->yQ hl n w=am w
 cols:∀ h:Int,0<=h->h < n->gM hl tk.length h+room h=rm h
 rnn:∀ h,0<=room h
def rC (n:Nat) (tk:List (List Int)) (am:Nat->Int) (rm:Int->Int):Prop :=
 ∀ R:Int->Bool,aD ((List.range tk.length).map fun w=>if (iT tk w).all R=true then am w else 0)<=aD ((aO n).map fun h=>if R h=true then rm h else 0)
theorem aE8 {n:Nat} {tk:List (List Int)} {am:Nat->Int} {rm:Int->Int} {hl:Nat->Int->Int} {room:Int->Int} (S:Spr n tk am rm hl room) (hall:rC n tk am rm) {os:List Int} (hc:∀ g∈os,∀ w t,EdP tk hl g w t->t∈os) (hn:(n:Int)∈os) (pos:0 < gM hl tk.length n) :
  ∃ h∈os,0<=h/\h < n/\0 < room h:=by
 by_cases c:∃ h∈os,0<=h/\h < n/\0 < room h
 ·exact c
 ·exfalso
  have z:∀ h∈os,0<=h->h < n->room h=0:=fun h h1 h2 h3=>by
   have:=S.rnn h
   by_cases q:0 < room h
   ·exact absurd ⟨h,h1,h2,h3,q⟩ c
   ·omega
  have h1:=hall (inS os)
  have e1:aD ((aO n).map fun h=>if inS os h=true then rm h else 0)=aD ((List.range tk.length).map fun w=>aD ((aO n).map fun h=>if inS os h=true then hl w h else 0)):=by
   rw [jE]
   refine aS fun h hh=>?_
   obtain ⟨u1,u2⟩:=bE.mp hh
   by_cases q:inS os h=true
   ·have:=S.cols h u1 u2
    rw [z h (fE.mp q) u1 u2] at this
    rw [if_pos q,<- this]
    unfold gM
    rw [Zp]
    exact aS fun w _=>by rw [if_pos q]
   ·rw [if_neg q]
    exact (bL fun w _=>by rw [if_neg q]).symm
  have e2:aD ((List.range tk.length).map fun w=>aD ((aO n).map fun h=>if inS os h=true then hl w h else 0)+hl w n)<=aD ((List.range tk.length).map fun w=>if (iT tk w).all (inS os)=true then am w else 0):=by
   refine cC fun w hw=>?_
   have hw':=Jt.mp hw
   by_cases q:(iT tk w).all (inS os)=true
   ·rw [if_pos q,<- S.rows w hw']
    unfold yQ
    rw [gL,Qt,cH]
    have:aD ((aO n).map fun h=>if inS os h=true then hl w h else 0)<=aD ((aO n).map (hl w)):=cC fun h _=>by
     have:=S.nn w h
     split <;> omega
    show _<=_+(hl w n+0)
    omega
   ·rw [if_neg q]
    have hz:∀ g∈os,hl w g=0:=fun g hg=>by
     have:=S.nn w g
     by_cases p:0 < hl w g
     ·exact absurd (Jb.mpr fun t ht=>fE.mpr (hc g hg w t ⟨hw',p,ht⟩)) q
     ·omega
    rw [hz n hn,bL fun h _=>?_]
    ·omega
    ·by_cases p:inS os h=true
     ·rw [if_pos p,hz h (fE.mp p)]
     ·rw [if_neg p]
  rw [cS] at e2
  unfold gM at pos
  omega
def mvP (hl:Nat->Int->Int) (w:Nat) (g t u:Int):Nat->Int->Int:=fun v h=>if v=w then hl v h - (if h=g then u else 0)+(if h=t then u else 0) else hl v h
theorem aE9 {hl:Nat->Int->Int} {m w:Nat} {g t u:Int} (hw:w < m) (h:Int):gM (mvP hl w g t u) m h=gM hl m h - (if h=g then u else 0)+(if h=t then u else 0):=by
 unfold gM
 have e:∀ v,mvP hl w g t u v h=hl v h+(if v=w then (if h=t then u else 0) - (if h=g then u else 0) else 0):=fun v=>by
  unfold mvP
  split <;> omega
 rw [aS fun v _=>e v,cS,iH _ w Wq (Jt.mpr hw)]
 omega
theorem aFa {hl:Nat->Int->Int} {n w:Nat} {g t u:Int} (g0:0<=g) (g1:g<=n) (t0:0<=t) (t1:t<=n) (v:Nat):yQ (mvP hl w g t u) n v=yQ hl n v:=by
 unfold yQ
 by_cases c:v=w
 ·have e:∀ h,mvP hl w g t u v h=hl v h+((if h=t then u else 0)+(if h=g then -u else 0)):=fun h=>by
   unfold mvP
   rw [if_pos c]
   split <;> split <;> omega
  have hm:∀ x:Int,0<=x->x<=n->x∈aO (n+1):=fun x h0 h1=>bE.mpr ⟨h0,by omega⟩
  rw [aS fun h _=>e h,cS,cS,iH _ t (jS _) (hm t t0 t1),iH _ g (jS _) (hm g g0 g1)]
  omega
 ·exact aS fun h _=>by unfold mvP; rw [if_neg c]
def rD (E:Int->Nat->Int->Prop):Int->List (Nat×Int×Int)->Int->Prop
 | h,[],x=>h=x
 | h,s::r,x=>s.2.1=h/\E h s.1 s.2.2/\rD E s.2.2 r x
def vtx (first:Int) (ss:List (Nat×Int×Int)):List Int:=first::ss.map (·.2.2)
theorem kR {E:Int->Nat->Int->Prop}:∀ {ss:List (Nat×Int×Int)} {h x:Int},rD E h ss x->(∀ (i:Nat) s,ss[i]?=some s->(vtx h ss)[i]?=some s.2.1/\E s.2.1 s.1 s.2.2/\(vtx h ss)[i+1]?=some s.2.2)/\(vtx h ss)[ss.length]?=some x
 | [],h,x,e=>⟨fun i s z=>by simp at z,by rw [show h=x from e]; rfl⟩
 | s::r,h,x,e=>by
  obtain ⟨e1,e2,e3⟩:=e
  obtain ⟨i1,i2⟩:=kR e3
  refine ⟨fun i q z=>?_,?_⟩
  ·cases i with
   | zero =>
    have z':s=q:=by simpa using z
    subst z'
    exact ⟨by rw [e1]; rfl,by rw [e1]; exact e2,rfl⟩
   | succ i=>exact i1 i q (by simpa using z)
  ·show (h::s.2.2::r.map (·.2.2))[r.length+1]?=some x
   exact i2
structure Gone (n:Nat) (tk:List (List Int)) (am:Nat->Int) (h0:Nat->Int->Int) (ss:List (Nat×Int×Int)) (u:Int) (i:Nat) (hl:Nat->Int->Int):Prop where
 nn:∀ w h,0<=hl w h
 sup:∀ w h,w < tk.length->0 < hl w h->h=n∨h∈iT tk w
 rows:∀ w,w < tk.length->yQ hl n w=am w
 col:∀ c,(vtx n ss)[i]?=some c->∀ h,gM hl tk.length h=gM h0 tk.length h - (if h=n then u else 0)+(if h=c then u else 0)
 more:∀ w h,(∀ j:Nat,j < i->(vtx n ss)[j]?≠some h)->h0 w h<=hl w h
theorem aFb {n:Nat} {tk:List (List Int)} {am:Nat->Int} {rm:Int->Int} {hl:Nat->Int->Int} {room:Int->Int} {ss:List (Nat×Int×Int)} {u:Int} (S:Spr n tk am rm hl room):Gone n tk am hl ss u 0 hl :=
 ⟨S.nn,S.sup,S.rows,fun c hc h=>by
  have:(n:Int)=c:=by simpa [vtx] using hc
  rw [this]; omega,fun w h _=>Jw _⟩
theorem aA4 {n:Nat} {tk:List (List Int)} {am:Nat->Int} {h0 hl:Nat->Int->Int} {ss:List (Nat×Int×Int)} {u x:Int} {i:Nat} {w:Nat} {g t:Int} (G:Gone n tk am h0 ss u i hl) (hp:rD (EdP tk h0) n ss x) (nd:(vtx n ss).Nodup) (hs:ss[i]?=some (w,g,t)) (hu0:0<=u) (hu:∀ s∈ss,u<=h0 s.1 s.2.1)
  (htk:∀ w,∀ h∈iT tk w,0<=h/\h < n):Gone n tk am h0 ss u (i+1) (mvP hl w g t u)/\u<=hl w g/\g≠t:=by
 obtain ⟨p1,_⟩:=kR hp
 obtain ⟨a1,⟨a2,a3,a4⟩,a5⟩:=p1 i _ hs
 have gi:∀ j:Nat,j < i->(vtx n ss)[j]?≠some g:=fun j hj z=>by
  have:=(Yf (Qd.mp z).1 nd).mp (z.trans a1.symm)
  omega
 have gt:g≠t:=fun z=>by
  subst z
  have:=(Yf (Qd.mp a1).1 nd).mp (a1.trans a5.symm)
  omega
 have hug:u<=hl w g:=Ya (hu _ (Qh hs)) (G.more w g gi)
 have gr:0<=g/\g<=n:=by
  cases i with
  | zero =>
   have:(n:Int)=g:=by simpa [vtx] using a1
   omega
  | succ i =>
   have hi:i < ss.length:=by
    have:=(Qd.mp a1).1
    simp [vtx] at this
    omega
   obtain ⟨_,⟨_,_,b3⟩,b4⟩:=p1 i _ (Qb hi)
   rw [b4] at a1
   have e:ss[i].2.2=g:=Option.some.inj a1
   rw [e] at b3
   have:=htk _ _ b3
   omega
 obtain ⟨t0,t1⟩:=htk w t a4
 refine ⟨⟨fun v h=>?_,fun v h hv hp=>?_,fun v hv=>?_,fun c hc h=>?_,fun v h hh=>?_⟩,hug,gt⟩
 ·have:=G.nn v h
  unfold mvP
  by_cases c:v=w
  ·rw [if_pos c]
   by_cases c2:h=g
   ·rw [if_pos c2,c2,c]
    split <;> omega
   ·rw [if_neg c2]
    split <;> omega
  ·rw [if_neg c]; exact this
 ·unfold mvP at hp
  by_cases c:v=w
  ·rw [if_pos c] at hp
   by_cases c2:h=t
   ·exact .inr (by rw [c,c2]; exact a4)
   ·rw [if_neg c2] at hp
    exact G.sup v h hv (by split at hp <;> omega)
  ·rw [if_neg c] at hp
   exact G.sup v h hv hp
 ·rw [aFa gr.1 gr.2 t0 (by omega)]
  exact G.rows v hv
 ·rw [a5] at hc
  have e:t=c:=Option.some.inj hc
  rw [aE9 a2,G.col g a1 h,e]
  omega
 ·have h1:=G.more v h fun j hj=>hh j (by omega)
  unfold mvP
  by_cases c:v=w
  ·rw [if_pos c,if_neg (fun z=>hh i (by omega) (by rw [z]; exact a1))]
   split <;> omega
  ·rw [if_neg c]; exact h1
theorem aCu {n:Nat} {tk:List (List Int)} {am:Nat->Int} {rm:Int->Int} {h0 hl:Nat->Int->Int} {room:Int->Int} {ss:List (Nat×Int×Int)} {u last:Int} (S:Spr n tk am rm h0 room) (G:Gone n tk am h0 ss u ss.length hl) (hp:rD (EdP tk h0) n ss last) (hl1:last < n) (hu:u<=room last) :
  Spr n tk am rm hl (fun h=>if h=last then room h - u else room h)/\gM hl tk.length n=gM h0 tk.length n - u:=by
 have hc:=G.col last (kR hp).2
 refine ⟨⟨G.nn,G.sup,G.rows,fun h a b=>?_,fun h=>?_⟩,?_⟩
 ·have:=S.cols h a b
  rw [hc h,if_neg (show ¬ h=n by omega)]
  split <;> omega
 ·have:=S.rnn h
  show 0<=if h=last then room h - u else room h
  split
  ·rename_i e; rw [e]; omega
  ·exact this
 ·rw [hc n,if_pos rfl,if_neg (by omega)]; omega
theorem aF8 {n:Nat} {tk:List (List Int)} {am:Nat->Int} {rm:Int->Int} (ha:∀ w,0<=am w) (hr:∀ h,0<=rm h):Spr n tk am rm (fun w h=>if h=n then am w else 0) (fun h=>rm h):=by
 refine ⟨fun w h=>?_,fun w h _ hp=>?_,fun w _=>?_,fun h h0 h1=>?_,hr⟩
 ·show 0<=if h=n then am w else 0
  split
  ·exact ha w
  ·exact Jw _
 ·by_cases c:h=n
  ·exact .inl c
  ·rw [if_neg c] at hp; omega
 ·exact iH (am w) (n:Int) (jS _) (bE.mpr ⟨by omega,by omega⟩)
 ·unfold gM
  rw [bL fun w _=>if_neg (show ¬ h=n by omega)]; omega
structure Sprd (n:Nat) (tk:List (List Int)) (am:Nat->Int) (rm:Int->Int) (hl:Nat->Int->Int):Prop where
 nn:∀ w h,0<=hl w h
 sup:∀ w h,w < tk.length->0 < hl w h->h∈iT tk w
 rows:∀ w,w < tk.length->aD ((aO n).map (hl w))=am w
 cols:∀ h:Int,0<=h->h < n->gM hl tk.length h<=rm h
theorem aDL {n:Nat} {tk:List (List Int)} {am:Nat->Int} {rm:Int->Int} {hl:Nat->Int->Int} {room:Int->Int} (S:Spr n tk am rm hl room) (h0:gM hl tk.length n<=0):Sprd n tk am rm hl:=by
 have z:∀ w,w < tk.length->hl w n=0:=fun w hw=>by
  have h1:hl w n<=gM hl tk.length n:=hJ (f:=fun w=>hl w n) (fun v _=>S.nn v n) (Jt.mpr hw)
  have:=S.nn w n
  omega
 refine ⟨S.nn,fun w h hw hp=>(S.sup w h hw hp).resolve_left fun e=>by rw [e,z w hw] at hp; omega,fun w hw=>?_,fun h a b=>?_⟩
 ·rw [<- S.rows w hw]
  unfold yQ
  rw [gL,Qt,cH]
  show _=_+(hl w n+0)
  rw [z w hw]; omega
 ·have:=S.cols h a b
  have:=S.rnn h
  omega
theorem aA5 {n:Nat} {tk:List (List Int)} {am:Nat->Int} {rm:Int->Int} {hl:Nat->Int->Int} (S:Sprd n tk am rm hl) (ht:aD ((List.range tk.length).map am)=aD ((aO n).map rm)):∀ h:Int,0<=h->h < n->gM hl tk.length h=rm h:=fun h a b=>by
 have e:aD ((aO n).map (gM hl tk.length))=aD ((aO n).map rm):=by
  rw [<- ht]
  show aD ((aO n).map fun h=>aD ((List.range tk.length).map fun w=>hl w h))=_
  rw [<- jE]
  exact aS fun w hw=>S.rows w (Jt.mp hw)
 have h1:rm h - gM hl tk.length h<=aD ((aO n).map fun h=>rm h+(-1)*gM hl tk.length h):=by
  have:=hJ (f:=fun h=>rm h+(-1)*gM hl tk.length h) (l:=aO n) (y:=h) (fun x hx=>by
   obtain ⟨u1,u2⟩:=bE.mp hx
   have:=S.cols x u1 u2
   show 0<=rm x+(-1)*gM hl tk.length x
   omega) (bE.mpr ⟨a,b⟩)
  show rm h - _<=_
  omega
 rw [cS,dX,e] at h1
 have:=S.cols h a b
 omega
theorem rG (a:Int) {b:Int} (_:0 < b):(Int.gcd a b:Int)*bP a b=a:=Qaa (Int.gcd_dvd_left ..)
theorem rH (a:Int) {b:Int} (_:0 < b):(Int.gcd a b:Int)*bI a b=b:=Qaa (Int.gcd_dvd_right ..)
theorem eE (a:Int) {b:Int} (hb:0 < b):0 < bI a b:=by
 have h1:=rH a hb
 have h2:=iS (a:=a) hb
 exact Wj (a:=(Int.gcd a b:Int)) (by omega) h2
theorem kC (a:Int) {b:Int} (hb:0 < b):bP a b*b=a*bI a b:=by
 have h1:=rG a hb
 have h2:=rH a hb
 calc bP a b*b=bP a b*((Int.gcd a b:Int)*bI a b):=by rw [h2]
  _=(Int.gcd a b:Int)*bP a b*bI a b:=by rw [<- Ji,Jv (bP a b)]
  _=a*bI a b:=by rw [h1]
theorem aAn {k:Int} (hk:0 < k) (a b:Int):bP (k*a) (k*b)=bP a b/\bI (k*a) (k*b)=bI a b:=by
 have e:(Int.gcd (k*a) (k*b):Int)=k*(Int.gcd a b:Int):=by
  rw [Int.gcd_mul_left,Ys]
  have:(k.natAbs:Int)=k:=by omega
  rw [this]
 unfold bP bI
 rw [e]
 exact ⟨Zl a _ hk,Zl b _ hk⟩
theorem yR {a b c d:Int} (hb:0 < b) (hd:0 < d) (h:a*d=c*b):bP a b=bP c d/\bI a b=bI c d:=by
 have h1:=aAn hd a b
 have h2:=aAn hb c d
 have e1:d*a=b*c:=by rw [Jv d a,h,Jv]
 have e2:d*b=b*d:=Jv ..
 rw [e1,e2] at h1
 exact ⟨h1.1.symm.trans h2.1,h1.2.symm.trans h2.2⟩
theorem pI {a b:Int} (ha:0<=a) (hb:0 < b):0<=bP a b:=Zi ha (by omega)
theorem aCv {a b:Int} (hb:0 < b):0 < bP a b↔0 < a:=by
 have h1:=rG a hb
 have h2:=iS (a:=a) hb
 constructor
 ·intro h; rw [<- h1]; exact Zz h2 h
 ·intro h; exact Wj (a:=(Int.gcd a b:Int)) (by omega) h2
theorem pJ {a b:Int} (ha:0<=a) (hb:0 < b):bP a b<=a:=Int.ediv_le_self _ ha
theorem kS {a b:Int} (hb:0 < b):bI a b<=b:=Int.ediv_le_self _ (by omega)
def bM (x:Int×Int):Int×Int:=(bP x.1 x.2,bI x.1 x.2)
theorem nC {x y:Int×Int} (hx:0 < x.2) (hy:0 < y.2):iN (bM x) (bM y)=iN x y:=by
 unfold iN bM
 have a1:=rG x.1 hx
 have b1:=rH x.1 hx
 have a2:=rG y.1 hy
 have b2:=rH y.1 hy
 have g1:=iS (a:=x.1) hx
 have g2:=iS (a:=y.1) hy
 generalize (Int.gcd x.1 x.2:Int)=g at a1 b1 g1
 generalize (Int.gcd y.1 y.2:Int)=k at a2 b2 g2
 show decide (bP x.1 x.2*bI y.1 y.2 < bP y.1 y.2*bI x.1 x.2)=_
 generalize bP x.1 x.2=A at a1 ⊢
 generalize bI x.1 x.2=B at b1 ⊢
 generalize bP y.1 y.2=C at a2 ⊢
 generalize bI y.1 y.2=D at b2 ⊢
 rw [<- a1,<- b1,<- a2,<- b2]
 have e1:g*A*(k*D)=(g*k)*(A*D):=by rw [Ji,Ji,<- Ji A k D,Jv A k,Ji]
 have e2:k*C*(g*B)=(g*k)*(C*B):=by rw [Ji,<- Ji C g B,Jv C g,Ji,<- Ji k g,Jv k g]
 rw [e1,e2]
 have p:0 < g*k:=Zz g1 g2
 refine decide_eq_decide.mpr ⟨fun h=>Int.mul_lt_mul_of_pos_left h p,fun h=>Int.lt_of_mul_lt_mul_left h (Jn p)⟩
theorem aDM (a c:Int) {b d:Int} (hb:0 < b) (hd:0 < d) {x z:Int} {q:Int} (hq:0 < q) (h1:a*q=x*b) (h2:c*q=z*d):bP (a*d+c*b) (b*d)=bP (x+z) q/\bI (a*d+c*b) (b*d)=bI (x+z) q:=by
 refine yR (Zz hb hd) hq ?_
 calc (a*d+c*b)*q=(a*q)*d+(c*q)*b:=by rw [Xs,Ju,Ju c b q]
  _=x*b*d+z*d*b:=by rw [h1,h2]
  _=(x+z)*(b*d):=by rw [Xs,Ji,Ji,Jv d b]
theorem aA6 (w:Int) {q:Int} (hq:0 < q):bP (w*q) q=w/\bI (w*q) q=1:=by
 have h:=yR (a:=w*q) (c:=w) hq (show (0:Int) < 1 by decide) (by rw [Xz])
 have e:(Int.gcd w 1:Int)=1:=by rw [Int.gcd_one_right]; rfl
 rw [h.1,h.2]
 unfold bP bI
 rw [e]
 exact ⟨Qaj _,rfl⟩
end Ab
namespace L2
open PySem PySem.Spec PyProof.Rows
section
variable {X:Cx}
def aCw (i j:Int):Prop:=i.natAbs < 2^4000/\j.natAbs < 2^4000
theorem aAo {i:Int} (h:i.natAbs < 2^4000):Builtin.Int.intBits i<=2^20:=by
 unfold Builtin.Int.intBits
 split
 ·exact Jj _
 ·rename_i hz
  have hz':i≠0:=by simpa using hz
  have h3:i.natAbs.log2 < 4000:=(Qan (by omega)).mpr h
  have:(2:Nat)^20=1048576:=by decide
  omega
theorem aCw.ok {i j:Int} (h:aCw i j):IntMulOk i j:=IntMulOk.of_bits (aAo h.1) (aAo h.2)
theorem dQ:OpR X (binaryOp .Mult) (rI aCw fun i j=>.int (i*j)):=opI fun _ _ _ _ _ _ _ hc q=>mul_int q hc.ok
def aCx (i j:Int):Prop:=0 < j/\j.natAbs < 2^4000
theorem iI:OpR X (binaryOp .FloorDiv) (rI aCx fun i j=>.int (i / j)):=opI fun i j _ _ _ _ _ hc q=>by
 have h1:(0:Int) < j:=hc.1
 refine floordiv_int (by omega) (by rw [Zt i (by omega)]; exact q) (.inl (PyProof.noPylong_of_log2 ?_))
 have h3:j.natAbs.log2 < 4000:=(Qan (by omega)).mpr hc.2
 omega
end
end L2
namespace Ab
open PySem L2
theorem wW (x y:Int):Int.gcd y (x % y)=Int.gcd x y:=by
 rw [Int.gcd_comm x y]
 refine Int.gcd_right_eq_iff.mpr fun c hc=>?_
 have h1:c ∣ y*(x / y):=Int.dvd_mul_of_dvd_left hc
 have h2:=Int.emod_add_mul_ediv x y
 constructor
 ·intro h
  rw [<- h2]
  exact Int.dvd_add h h1
 ·intro h
  rw [Int.emod_def]
  exact Int.dvd_sub h h1
section
variable {P:Program} {w:World} {K:PySem.W.Frag} {mg:Str->Option Value} {base:Heap}
def wX:Sp:=fun vs H Q _=>∃ a b:Int,vs = [.int a,.int b]/\0 < b/\Q (.int (Int.gcd a b)) H
theorem wY:FnScope ["a", "b"] ["a", "b"] (aH pA):=⟨rfl,rfl,rfl,by decide +kernel,rfl,by decide +kernel,by decide +kernel⟩
theorem aA7 {f:Addr} {fd:FuncData} (G:Fn K mg "common" pA ["a", "b"] f fd) (B:Bl mg):FnOk P w K mg base CX0 1 f fd ["a", "b"] wX:=by
 refine G.fn.ok wY (fun vs H Q E h=>?_) (fun cdv A outer s H vs Q E hr h=>?_)
 ·obtain ⟨a,b,rfl,_⟩:=h
  rfl
 ·obtain ⟨a,b,rfl,hb,k⟩:=h
  refine ⟨_,(aF (jX PassesOwn.never (bO zO (pv 1) aI (cG _))
   (aJ (aBv (i:=0) (j:=1) rfl wY.nd rfl rfl (by decide) rfl rfl (aA (pv 1) (aA (aZ mC (pv 0) (pv 1)) aC)) rfl)))
  (aJ (aY (pv 0)))),?_⟩
  refine ⟨fun m σ H1=>∃ x y:Int,σ = [some (.int x),some (.int y)]/\H1=H/\m=y.toNat/\0<=y/\Int.gcd x y=Int.gcd a b/\(y=0->0 < x),⟨_,a,b,rfl,rfl,rfl,by omega,rfl,by omega⟩,?_⟩
  rintro m σ H1 ⟨x,y,rfl,rfl,rfl,hy,hg,hx⟩
  refine ⟨_,rfl,rfl,_,rfl,?_⟩
  refine gW (fun c=>?_) (fun c=>?_)
  ·have hy0:y≠0:=by simpa using c
   have hyp:0 < y:=by omega
   refine ⟨fun σ H2=>∃ u v:Int,σ = [some (.int u),some (.int v)]/\H2=H1/\v.toNat < y.toNat/\0<=v/\Int.gcd u v=Int.gcd a b/\(v=0->0 < u),?_,?_⟩
   ·rintro σ' H' ⟨u,v,rfl,rfl,h1,h2,h3,h4⟩
    exact ⟨_,h1,u,v,rfl,rfl,rfl,h2,h3,h4⟩
   ·refine ⟨_,rfl,_,rfl,_,rfl,_,_,rfl,rfl,hyp,_,_,rfl,?_⟩
    have l1:=Ye x hy0
    have l2:=Zm x hyp
    exact ⟨y,x % y,rfl,rfl,by omega,l1,(wW x y).trans hg,fun _=>hyp⟩
  ·have hy0:y=0:=by simpa using c
   subst hy0
   refine ⟨_,rfl,?_⟩
   have hx':=hx rfl
   have:(Int.gcd a b:Int)=x:=by rw [<- hg,Int.gcd_zero]; omega
   rw [this] at k
   exact k
def gR:Sp:=fun vs H Q _=>∃ a b:Int,vs = [.int a,.int b]/\0 < b/\b < 2^1000/\∀ p,H p=none->Q (.ref p) (upd H p (.tup [.int (bP a b),.int (bI a b)]))
theorem aCy {a b m:Int} (hb:0 < b) (h:b < m):(Int.gcd a b:Int) < m:=Xv (Int.gcd_le_right a hb) h
theorem aF9 {b:Int} (h0:0 < b) (h:b < 2^1000):b.natAbs < 2^4000:=by
 have h2:b.natAbs < 2^1000:=by
  have:((2:Int)^1000)=((2^1000:Nat):Int):=by rw [Int.natCast_pow]; rfl
  rw [this] at h
  omega
 exact Qi h2 (Zf (by decide) (by decide))
theorem wZ:FnScope ["a", "b", "most"] ["a", "b"] (aH kL):=⟨rfl,rfl,rfl,by decide +kernel,rfl,by decide +kernel,by decide +kernel⟩
theorem aA8 {f fC:Addr} {fd dC:FuncData} (G:Fn K mg "lowest" kL ["a", "b"] f fd) (B:Bl mg) (GC:Fn K mg "common" pA ["a", "b"] fC dC):FnOk P w K mg base CX0 2 f fd ["a", "b"] gR:=by
 have OC:FnOk P w K mg base CX0 1 fC dC ["a", "b"] wX:=aA7 GC B
 refine G.fn.ok wZ (fun vs H Q E h=>?_) (fun cdv A outer s H vs Q E hr h=>?_)
 ·obtain ⟨a,b,rfl,_⟩:=h
  rfl
 ·obtain ⟨a,b,rfl,hb,hbb,k⟩:=h
  refine ⟨_,(aF (aT (i:=2) wZ.nd rfl (Or.inl rfl) (bF GC OC hr rfl (aA (pv 0) (aA (pv 1) aC))))
  (aJ (aY (cU (aA (aZ iI (pv 0) (pv 2)) (aA (aZ iI (pv 1) (pv 2)) aC)))))),?_⟩
  have g0:=iS (a:=a) hb
  have g1:=aF9 g0 (aCy (a:=a) hb hbb)
  exact ⟨_,rfl,_,rfl,a,b,rfl,hb,_,rfl,_,rfl,_,_,rfl,rfl,⟨g0,g1⟩,_,rfl,_,rfl,_,_,rfl,rfl,⟨g0,g1⟩,sz2 _ _,fun p hp=>k p hp⟩
def Fra (K:PySem.W.Frag) (H:Hp) (p:Addr) (a b:Int):Prop:=SqT K H p [.int a,.int b]/\0 < b/\b < 2^200/\a.natAbs < 2^200
theorem xA {b:Int} (h0:0 < b) (h:b < 2^200):b.natAbs < 2^200:=by
 have:((2:Int)^200)=((2^200:Nat):Int):=by rw [Int.natCast_pow]; rfl
 rw [this] at h
 omega
theorem lU {b:Int} (h:b.natAbs < 2^200):b.natAbs < 2^4000:=Qi h (Zf (by decide) (by decide))
def yS (K:PySem.W.Frag):Sp:=fun vs H Q _=>∃ (p1 p2:Addr) (a b c d:Int),vs = [.ref p1,.ref p2]/\Fra K H p1 a b/\Fra K H p2 c d/\∀ p,H p=none->Q (.ref p) (upd H p (.tup [.int (bP (a*d+c*b) (b*d)),.int (bI (a*d+c*b) (b*d))]))
theorem aFc:FnScope ["one", "other"] ["one", "other"] (aH zZ):=⟨rfl,rfl,rfl,by decide +kernel,rfl,by decide +kernel,by decide +kernel⟩
theorem aEp {b d:Int} (hb:0 < b) (hd:0 < d) (h1:b < 2^200) (h2:d < 2^200):0 < b*d/\b*d < 2^1000:=by
 refine ⟨Zz hb hd,?_⟩
 have h:b*d<=2^200*2^200:=Yi (Jn h1) (Jn h2) (Jn hd) (by decide)
 exact Xv h (by decide)
theorem aDN {f fL:Addr} {fd dL:FuncData} (G:Fn K mg "plus" zZ ["one", "other"] f fd) (B:Bl mg) (GL:Fn K mg "lowest" kL ["a", "b"] fL dL) (OL:FnOk P w K mg base CX0 2 fL dL ["a", "b"] gR):FnOk P w K mg base CX0 3 f fd ["one", "other"] (yS K):=by
 refine G.fn.ok aFc (fun vs H Q E h=>?_) (fun cdv A outer s H vs Q E hr h=>?_)
 ·obtain ⟨p1,p2,a,b,c,d,rfl,_⟩:=h
  rfl
 ·obtain ⟨p1,p2,a,b,c,d,rfl,⟨s1,b0,b1,a1⟩,⟨s2,d0,d1,c1⟩,k⟩:=h
  have r2:Room 2 _:=hr
  refine ⟨_,(aJ (aY (bF GL OL r2 rfl (aA (aZ gN (aZ dQ (aV bB (pv 0) aI (fun _ _=>rfl)) (aV bB (pv 1) aI (fun _ _=>rfl))) (aZ dQ (aV bB (pv 1) aI (fun _ _=>rfl)) (aV bB (pv 0) aI (fun _ _=>rfl)))) (aA (aZ dQ (aV bB (pv 0) aI (fun _ _=>rfl)) (aV bB (pv 1) aI (fun _ _=>rfl))) aC))))),?_⟩
  have bn:=lU (xA b0 b1)
  have dn:=lU (xA d0 d1)
  have an:=lU a1
  have cn:=lU c1
  obtain ⟨m1,m2⟩:=aEp b0 d0 b1 d1
  refine ⟨_,rfl,p1,_,0,_,rfl,rfl,s1,rfl,_,rfl,p2,_,1,_,rfl,rfl,s2,rfl,a,d,rfl,rfl,⟨an,dn⟩,_,rfl,p2,_,0,_,rfl,rfl,s2,rfl,_,rfl,p1,_,1,_,rfl,rfl,s1,rfl,c,b,rfl,rfl,⟨cn,bn⟩,_,_,rfl,rfl,
   _,rfl,p1,_,1,_,rfl,rfl,s1,rfl,_,rfl,p2,_,1,_,rfl,rfl,s2,rfl,b,d,rfl,rfl,⟨bn,dn⟩,_,_,rfl,m1,m2,fun p hp=>k p hp⟩
def yT (K:PySem.W.Frag):Sp:=fun vs H Q _=>∃ (p1 p2:Addr) (a b c d:Int),vs = [.ref p1,.ref p2]/\Fra K H p1 a b/\Fra K H p2 c d/\Q (.bl (decide (a*d < c*b))) H
theorem aFd:FnScope ["one", "other"] ["one", "other"] (aH aAa):=⟨rfl,rfl,rfl,by decide +kernel,rfl,by decide +kernel,by decide +kernel⟩
theorem aDO {f:Addr} {fd:FuncData} (G:Fn K mg "is_less" aAa ["one", "other"] f fd):FnOk P w K mg base CX0 1 f fd ["one", "other"] (yT K):=by
 refine G.fn.ok aFd (fun vs H Q E h=>?_) (fun cdv A outer s H vs Q E hr h=>?_)
 ·obtain ⟨p1,p2,a,b,c,d,rfl,_⟩:=h
  rfl
 ·obtain ⟨p1,p2,a,b,c,d,rfl,⟨s1,b0,b1,a1⟩,⟨s2,d0,d1,c1⟩,k⟩:=h
  refine ⟨_,(aJ (aY (lJ aBy (aZ dQ (aV bB (pv 0) aI (fun _ _=>rfl)) (aV bB (pv 1) aI (fun _ _=>rfl))) (aZ dQ (aV bB (pv 1) aI (fun _ _=>rfl)) (aV bB (pv 0) aI (fun _ _=>rfl))) (cG _)))),?_⟩
  have bn:=lU (xA b0 b1)
  have dn:=lU (xA d0 d1)
  have an:=lU a1
  have cn:=lU c1
  exact ⟨_,rfl,p1,_,0,_,rfl,rfl,s1,rfl,_,rfl,p2,_,1,_,rfl,rfl,s2,rfl,a,d,rfl,rfl,⟨an,dn⟩,_,rfl,p2,_,0,_,rfl,rfl,s2,rfl,_,rfl,p1,_,1,_,rfl,rfl,s1,rfl,c,b,rfl,rfl,⟨cn,bn⟩,_,_,rfl,rfl,k⟩
end
theorem tT {b:Bool} {A B:Prop} (e:b=false) (h:B):if b=true then A else B:=by subst e; exact kY h
theorem aEq {b:Bool} {A B:Prop} (e:b=true) (h:A):if b=true then A else B:=by subst e; exact jY h
theorem aAp (v:V):(!decide (v=v))=false:=by simp
def jF (x:Int×Int):PyData:=.tuple [.int x.1,.int x.2]
theorem dU {K:PySem.W.Frag} {H:Hp} {x:Int×Int} {v:V}:Den K H (jF x) v↔∃ p,v=.ref p/\SqT K H p [.int x.1,.int x.2]:=by
 constructor
 ·intro h
  obtain ⟨p,xs,rfl,hp,hx⟩:=bJ.mp h
  obtain ⟨x1,r1,rfl,d1,hr1⟩:=aK.mp hx
  obtain ⟨x2,r2,rfl,d2,hr2⟩:=aK.mp hr1
  rw [aN.mp hr2,dJ.mp d1,dJ.mp d2] at hp
  exact ⟨p,rfl,hp⟩
 ·rintro ⟨p,rfl,hp⟩
  exact bJ.mpr ⟨p,_,rfl,hp,aK.mpr ⟨_,_,rfl,dJ.mpr rfl,aK.mpr ⟨_,_,rfl,dJ.mpr rfl,aN.mpr rfl⟩⟩⟩
def nX (x:Int×Int):Prop:=0 < x.2/\x.2 < 2^200/\x.1.natAbs < 2^200
theorem lF {K:PySem.W.Frag} {H:Hp} {p:Addr} {x:Int×Int} (h:SqT K H p [.int x.1,.int x.2]) (o:nX x):Fra K H p x.1 x.2:=⟨h,o.1,o.2.1,o.2.2⟩
def jG (x y:Int×Int):Int×Int:=bM (x.1*y.2+y.1*x.2,x.2*y.2)
def kT (ps:List (Int×Int)):Int×Int:=ps.foldl jG (0,1)
theorem aA9 (ps:List (Int×Int)) (x:Int×Int):kT (ps++[x])=jG (kT ps) x:=by unfold kT; rw [List.foldl_append]; rfl
def aEr (ps:List (Int×Int)):Prop:=(∀ x∈ps,nX x)/\∀ i,nX (kT (ps.take i))
theorem cF {α:Type} {l:List α} {i:Nat} {x:α} (h:l[i]?=some x):l.take (i+1)=l.take i++[x]:=by rw [Wk,h]; rfl
theorem cE {K:PySem.W.Frag} {H:Hp} {α:Type} {f:α->PyData} {ps:List α} {vs:List V} (h:aR K H (ps.map f) vs) {i:Nat} {v:V} (hv:vs[i]?=some v):∃ x,ps[i]?=some x/\Den K H (f x) v:=by
 obtain ⟨d,hd,hden⟩:=iV h hv
 rw [Qe] at hd
 obtain ⟨x,hx,rfl⟩:=Qz.mp hd
 exact ⟨x,hx,hden⟩
section
variable {P:Program} {w:World} {K:PySem.W.Frag} {mg:Str->Option Value} {base:Heap}
variable {fW fH fK fB fNB:Addr} {dW dH dK dB dNB:FuncData}
def rJ:Sp:=fun vs H Q _=>∃ i:Int,vs = [.int i]/\Q (.bl true) H
theorem aCz:FnScope ["found"] ["found"] (aH pC):=⟨rfl,rfl,rfl,by decide +kernel,rfl,by decide +kernel,by decide +kernel⟩
theorem aBa {f:Addr} {fd:FuncData} (G:Fn K mg "_law_awhole" pC ["found"] f fd) (B:Bl mg):FnOk P w K mg base CX0 1 f fd ["found"] rJ:=by
 refine G.fn.ok aCz (fun vs H Q E h=>?_) (fun cdv A outer s H vs Q E hr h=>?_)
 ·obtain ⟨i,rfl,_⟩:=h
  rfl
 ·obtain ⟨i,rfl,k⟩:=h
  refine ⟨_,(aJ (aY (pO (aQ mO rfl B.isinstance mU (aA (pv 0) (aA (iQ (v:=.ty "int") rfl B.int aEm rfl) aC))) (pN (xR (aQ lX rfl B.isinstance mU (aA (pv 0) (aA (iQ (v:=.ty "bool") rfl B.bool aCc rfl) aC)))))))),?_⟩
  refine ⟨_,rfl,.int i,.int,rfl,rfl,_,rfl,?_⟩
  refine jY ?_
  exact ⟨_,rfl,.int i,.int,rfl,rfl,_,rfl,k⟩
theorem uT:FnScope ["a", "b", "one", "other"] ["a", "b"] (aH aAd):=⟨rfl,rfl,rfl,by decide +kernel,rfl,by decide +kernel,by decide +kernel⟩
theorem aDP {f:Addr} {fd:FuncData} (G:Fn K mg "_law_alow" aAd ["a", "b"] f fd):FnOk P w K mg base CX0 1 f fd ["a", "b"] gR:=by
 refine G.fn.ok uT (fun vs H Q E h=>?_) (fun cdv A outer s H vs Q E hr h=>?_)
 ·obtain ⟨a,b,rfl,_⟩:=h
  rfl
 ·obtain ⟨a,b,rfl,hb,hbb,k⟩:=h
  refine ⟨_,(aF (aT (i:=2) uT.nd rfl (Or.inl rfl) (pv 0))
  (aF (aT (i:=3) uT.nd rfl (Or.inl rfl) (pv 1))
  (aF (jX PassesOwn.never (bO lV (pv 3) aI (cG _))
   (aJ (aBv (i:=2) (j:=3) rfl uT.nd rfl rfl (by decide) rfl rfl (aA (pv 3) (aA (aZ mC (pv 2) (pv 3)) aC)) rfl)))
  (aJ (aY (cU (aA (aZ iI (pv 0) (pv 2)) (aA (aZ iI (pv 1) (pv 2)) aC)))))))),?_⟩
  refine ⟨_,rfl,_,rfl,fun m σ H1=>∃ x y:Int,σ = [some (.int a),some (.int b),some (.int x),some (.int y)]/\H1=H/\m=y.toNat/\0<=y/\Int.gcd x y=Int.gcd a b/\(y=0->0 < x),⟨_,a,b,rfl,rfl,rfl,by omega,rfl,by omega⟩,?_⟩
  rintro m σ H1 ⟨x,y,rfl,rfl,rfl,hy,hg,hx⟩
  refine ⟨_,rfl,_,_,rfl,rfl,_,rfl,?_⟩
  refine gW (fun c=>?_) (fun c=>?_)
  ·have hyp:0 < y:=of_decide_eq_true c
   refine ⟨fun σ H2=>∃ u v:Int,σ = [some (.int a),some (.int b),some (.int u),some (.int v)]/\H2=H1/\v.toNat < y.toNat/\0<=v/\Int.gcd u v=Int.gcd a b/\(v=0->0 < u),?_,?_⟩
   ·rintro σ' H' ⟨u,v,rfl,rfl,h1,h2,h3,h4⟩
    exact ⟨_,h1,u,v,rfl,rfl,rfl,h2,h3,h4⟩
   ·refine ⟨_,rfl,_,rfl,_,rfl,_,_,rfl,rfl,hyp,_,_,rfl,?_⟩
    have l1:=Ye x (show y≠0 by omega)
    have l2:=Zm x hyp
    exact ⟨y,x % y,rfl,rfl,by omega,l1,(wW x y).trans hg,fun _=>hyp⟩
  ·have hy0:y=0:=by have:¬ 0 < y:=fun z=>c (decide_eq_true z); omega
   subst hy0
   have hx':=hx rfl
   have e:x=(Int.gcd a b:Int):=by rw [<- hg,Int.gcd_zero]; omega
   have g1:=aF9 (by omega) (aCy (a:=a) hb hbb)
   rw [e]
   have g0:=iS (a:=a) hb
   exact ⟨_,rfl,_,rfl,_,_,rfl,rfl,⟨g0,g1⟩,_,rfl,_,rfl,_,_,rfl,rfl,⟨g0,g1⟩,sz2 _ _,fun p hp=>k p hp⟩
def yU (K:PySem.W.Frag):Sp:=fun vs H Q _=>∃ (q:Addr) (us:List V) (ps:List (Int×Int)),vs = [.ref q]/\SqL K H q us/\aR K H (ps.map jF) us/\aEr ps/\∀ p H',aE H H'->SqT K H' p [.int (kT ps).1,.int (kT ps).2]->Q (.ref p) H'
theorem mI:FnScope ["some", "top", "below", "a", "b"] ["some"] (aH aAe):=⟨rfl,rfl,rfl,by decide +kernel,rfl,by decide +kernel,by decide +kernel⟩
theorem aDQ {f fL:Addr} {fd dL:FuncData} (G:Fn K mg "_law_asum" aAe ["some"] f fd) (GLo:Fn K mg "_law_alow" aAd ["a", "b"] fL dL) (OLo:FnOk P w K mg base CX0 1 fL dL ["a", "b"] gR):FnOk P w K mg base CX0 2 f fd ["some"] (yU K):=by
 refine G.fn.ok mI (fun vs H Q E h=>?_) (fun cdv A outer s H vs Q E hr h=>?_)
 ·obtain ⟨q,us,ps,rfl,_⟩:=h
  rfl
 ·obtain ⟨q,vs,ps,rfl,hq,hd,ok,k⟩:=h
  have r1:Room 1 _:=hr
  refine ⟨_,(aF (aT (i:=1) mI.nd rfl (Or.inl rfl) aI)
  (aF (aT (i:=2) mI.nd rfl (Or.inl rfl) aI)
  (aF (eJ PassesOwn.never rfl (cY (pv 0)) (iX rfl (aW (aL (i:=3) mI.nd rfl (Or.inl rfl)) (aW (aL (i:=4) mI.nd rfl (Or.inl rfl)) dF)))
   (aJ (kW (bF GLo OLo r1 rfl (aA (aZ gN (aZ dQ (pv 1) (pv 4)) (aZ dQ (pv 3) (pv 2))) (aA (aZ dQ (pv 2) (pv 4)) aC))) (iX rfl (aW (aL (i:=1) mI.nd rfl (Or.inl rfl)) (aW (aL (i:=2) mI.nd rfl (Or.inl rfl)) dF))))))
  (aJ (aY (cU (aA (pv 1) (aA (pv 2) aC)))))))),?_⟩
  refine ⟨_,rfl,q,rfl,⟨_,hq⟩,iY (K:=K) (a:=q) (xs:=vs) (fun i σ H2=>∃ v w,σ = [some (.ref q),some (.int (kT (ps.take i)).1),some (.int (kT (ps.take i)).2),v,w]/\aE H H2) ⟨none,none,rfl,aE.refl H⟩ (fun i σ H2 _ ⟨_,_,_,s2⟩=>s2.seqL hq) ?_ ?_⟩
  ·rintro i x σ H2 hx ⟨v,w,rfl,s2⟩
   obtain ⟨y,hy,hyd⟩:=cE hd hx
   obtain ⟨py,rfl,hpy⟩:=dU.mp hyd
   refine ⟨py,_,rfl,s2.seqT hpy,rfl,_,_,rfl,_,_,rfl,rfl,?_⟩
   have o1:=ok.2 i
   have o2:=ok.1 y (Qh hy)
   obtain ⟨m1,m2⟩:=aEp o1.1 o2.1 o1.2.1 o2.2.1
   have c1:=lU o1.2.2
   have c2:=lU (xA o1.1 o1.2.1)
   have c3:=lU o2.2.2
   have c4:=lU (xA o2.1 o2.2.1)
   refine ⟨_,rfl,_,rfl,_,_,rfl,rfl,⟨c1,c4⟩,_,rfl,_,rfl,_,_,rfl,rfl,⟨c3,c2⟩,_,_,rfl,rfl,_,rfl,_,rfl,_,_,rfl,rfl,⟨c2,c4⟩,_,_,rfl,m1,m2,fun pn hpn=>?_⟩
   refine ⟨pn,_,rfl,SqT.of aB,rfl,_,_,rfl,_,_,rfl,rfl,?_⟩
   rw [cF hy,aA9]
   exact ⟨_,_,rfl,s2.trans (aE.new hpn)⟩
  ·rintro σ H2 ⟨v,w,rfl,s2⟩
   have hl:=aM hd
   rw [Qa] at hl
   rw [hl,Js]
   exact ⟨_,rfl,_,rfl,sz2 _ _,fun p hp=>k p _ (s2.trans (aE.new hp)) (SqT.of aB)⟩
def rK (K:PySem.W.Frag):Sp:=fun vs H Q _=>∃ (p1 p2:Addr) (a b c d:Int),vs = [.ref p1,.ref p2]/\Fra K H p1 a b/\Fra K H p2 c d/\Q (.bl (decide (a*d<=c*b))) H
theorem aBb:FnScope ["one", "other"] ["one", "other"] (aH mY):=⟨rfl,rfl,rfl,by decide +kernel,rfl,by decide +kernel,by decide +kernel⟩
theorem aBc {f:Addr} {fd:FuncData} (G:Fn K mg "_law_ano_more" mY ["one", "other"] f fd):FnOk P w K mg base CX0 1 f fd ["one", "other"] (rK K):=by
 refine G.fn.ok aBb (fun vs H Q E h=>?_) (fun cdv A outer s H vs Q E hr h=>?_)
 ·obtain ⟨p1,p2,a,b,c,d,rfl,_⟩:=h
  rfl
 ·obtain ⟨p1,p2,a,b,c,d,rfl,⟨s1,b0,b1,a1⟩,⟨s2,d0,d1,c1⟩,k⟩:=h
  refine ⟨_,(aJ (aY (lJ sZ (aZ dQ (aV bB (pv 0) aI (fun _ _=>rfl)) (aV bB (pv 1) aI (fun _ _=>rfl))) (aZ dQ (aV bB (pv 1) aI (fun _ _=>rfl)) (aV bB (pv 0) aI (fun _ _=>rfl))) (cG _)))),?_⟩
  have bn:=lU (xA b0 b1)
  have dn:=lU (xA d0 d1)
  have an:=lU a1
  have cn:=lU c1
  exact ⟨_,rfl,p1,_,0,_,rfl,rfl,s1,rfl,_,rfl,p2,_,1,_,rfl,rfl,s2,rfl,a,d,rfl,rfl,⟨an,dn⟩,_,rfl,p2,_,0,_,rfl,rfl,s2,rfl,_,rfl,p1,_,1,_,rfl,rfl,s1,rfl,c,b,rfl,rfl,⟨cn,bn⟩,_,_,rfl,rfl,k⟩
theorem nY {K:PySem.W.Frag} {H:Hp}:∀ {ds:List PyData} {zs:List V},zs.length=ds.length->(∀ (i:Nat) d z,ds[i]?=some d->zs[i]?=some z->Den K H d z)->aR K H ds zs
 | [],[],_,_=>aN.mpr rfl
 | [],_::_,h,_=>by cases h
 | _::_,[],h,_=>by cases h
 | d::ds,z::zs,hl,h=>aK.mpr ⟨z,zs,rfl,h 0 d z rfl rfl,nY (by simpa using hl) fun i d' z' h1 h2=>h (i+1) d' z' h1 h2⟩
def xB (s:List Int) (g:Int):PyData:=.tuple [eG s,.int g]
theorem rM {K:PySem.W.Frag} {H:Hp} {s:List Int} {g:Int} {v:V} (h:Den K H (xB s g) v):∃ p q,v=.ref p/\SqT K H p [.ref q,.int g]/\SqT K H q (s.map V.int):=by
 obtain ⟨p,xs,rfl,hp,hx⟩:=bJ.mp h
 obtain ⟨x1,r1,rfl,d1,hr1⟩:=aK.mp hx
 obtain ⟨x2,r2,rfl,d2,hr2⟩:=aK.mp hr1
 rw [aN.mp hr2] at hp
 obtain ⟨q,rfl,hq⟩:=cM.mp d1
 rw [dJ.mp d2] at hp
 exact ⟨p,q,rfl,hp,hq⟩
theorem nZ {K:PySem.W.Frag} {H:Hp} {s:List Int} {g:Int} {p q:Addr} (h1:SqT K H p [.ref q,.int g]) (h2:SqT K H q (s.map V.int)):Den K H (xB s g) (.ref p) :=
 bJ.mpr ⟨p,_,rfl,h1,aK.mpr ⟨_,_,rfl,cM.mpr ⟨q,rfl,h2⟩,aK.mpr ⟨_,_,rfl,dJ.mpr rfl,aN.mpr rfl⟩⟩⟩
theorem xC (s:List Int) (g:Int):eC (xB s g)=true:=by
 unfold xB eC dO
 rw [iE]
 unfold dO eC dO
 rfl
theorem aEs:bootBuiltins "any" = some (.builtin "any"):=by decide +kernel
theorem uU {X:Cx} {K:PySem.W.Frag} {tg l:Expr} {tl:TE} (hK:X.K=K) (hl:PE X l tl):PI X tg l (aFz K tl):=by subst hK; exact iK hl
theorem aCA {H H':Hp} {a:Addr} {u:HO} (e:aE H H') (h:H a=none):aE H (upd H' a u):=fun b o q=>by
 rw [aG (fun z=>by rw [z,h] at q; cases q)]
 exact e b o q
def rN (ws:List (List Int)) (wt:List Int):Prop:=wt.length=ws.length/\∀ w∈wt,0<=w/\w<=99
theorem aEt {K:PySem.W.Frag} {H:Hp} {p:Addr} {l:List Int} (h:SqT K H p (l.map V.int)):Den K H (.tuple (l.map .int)) (.ref p):=cM.mpr ⟨p,rfl,h⟩
theorem aFe {n i:Nat} {b:Bool} {v:V} (h:((List.replicate n b).map V.bl)[i]?=some v):v=.bl b:=by
 rw [Qe] at h
 obtain ⟨c,hc,rfl⟩:=Qz.mp h
 rw [Wl (Qh hc)]
theorem uV (i:Int) (l:List Int):inV (.int i) (l.map V.int)=decide (i∈l):=by
 rw [aDF,Xm,Jz,decide_eq_true_iff]
 exact ⟨fun ⟨y, h1, h2⟩ => by have : y = i := by simpa using h2
                              rw [<- this]; exact h1,fun h=>⟨i,h,by simp⟩⟩
theorem uW (hs:List Int):(eT hs).length=2^hs.length:=by rw [gE,Jl,aA1]
theorem rO (hs:List Int):∀ s∈eT hs,s.length<=hs.length:=fun s h=>by
 rw [gE] at h
 rcases Qp.mp h with rfl | h
 ·exact Jj _
 ·exact oQ hs s h
theorem aDR {m n:Nat} (h:m<=n):2^m<=2^n:=Zf (by decide) h
def uX (K:PySem.W.Frag):Sp:=fun vs H Q _=>∃ (x:V) (n:Int) (ws:List (List Int)) (wp:Addr) (wt:List Int),vs = [x,.ref wp]/\Den K H (cW n ws) x/\cV (cW n ws)=true/\SqT K H wp (wt.map V.int)/\rN ws wt/\∀ H',aE H H'->Q (.bl true) H'
theorem aDS:FnScope ["book", "thing"] ["book", "thing"] (aH qP):=⟨rfl,rfl,rfl,by decide +kernel,rfl,by decide +kernel,by decide +kernel⟩
theorem aCB {f:Addr} {fd:FuncData} (G:Fn K mg "are_weights" qP ["book", "thing"] f fd) (B:Bl mg) (R:Pr K mg fW fH fK fB fNB dW dH dK dB dNB):FnOk P w K mg base CX0 5 f fd ["book", "thing"] (uX K):=by
 have OW:FnOk P w K mg base CX0 1 fW dW ["thing"] (pF K):=qT R.W B
 have ONB:FnOk P w K mg base CX0 4 fNB dNB ["book"] (aAi K):=aCk B R
 obtain ⟨tmw,hmw⟩:=B.mw
 refine G.fn.ok aDS (fun vs H Q E h=>?_) (fun cdv A outer s H vs Q E hr h=>?_)
 ·obtain ⟨x,n,ws,wp,wt,rfl,_⟩:=h
  rfl
 ·obtain ⟨x,n,ws,wp,wt,rfl,hx,hbk,hw,hwt,k⟩:=h
  have r1:Room 1 _:=hr.mono (by decide)
  have r4:Room 4 _:=hr
  refine ⟨_,(aF (lI (bF R.NB ONB r4 rfl (aA (pv 0) aC)))
  (aF (fF (PW.pt (oI (gX (fZ (aQ fJ rfl B.isinstance mU (aA (pv 1) (aA (iQ (v:=.ty "tuple") rfl B.tuple gG rfl) aC))))) (mB (bO zO (aQ aU rfl B.len eZ (aA (pv 1) aC)) (aQ aU rfl B.len eZ (aA (aV bB (pv 0) aI (fun _ _=>rfl)) aC)) (cG _)))))
   (aJ (aY jI))
   bX)
  (aJ (aY (aQ (pV rfl) rfl B.all aCe (aA (cO (own:=["weight"]) (fr:=[]) (frn:=[]) (aX (aH qP) ["book", "thing"] rfl rfl (by decide +kernel)) rfl (iK (pv 1))
    (fun _ _ _ _=>(aL (i:=0) (show (["weight"]:List Str).Nodup by decide +kernel) rfl (Or.inl rfl))) (fun _ _ _ _=>cZ)
    (fun _ _ _ _=>(pO (bF R.W OW r1 rfl (aA (pv 0) aC)) (pN (vN sZ sZ aI (pv 0) (lH (v:=.int 99) rfl hmw ⟨tmw,rfl⟩)))))) aC)))))),?_⟩
  refine ⟨_,rfl,x,_,rfl,hx,hbk,fun H1 s1=>?_⟩
  have hw1:=s1.seqT hw
  obtain ⟨c,b,ys,e,hc,hb1,hys1⟩:=iD (s1.den _ _ hx)
  cases e
  have hly:=aM hys1
  rw [Qa] at hly
  obtain ⟨_,_,h12,_⟩:=cX hbk
  refine ⟨_,rfl,.ref wp,.tup,rfl,(aEt hw1).kd,_,rfl,?_⟩
  refine kY ?_
  refine ⟨_,rfl,wp,_,rfl,.inr hw1,_,rfl,c,_,1,.ref b,rfl,rfl,hc,rfl,b,ys,rfl,.inr hb1,rfl,_,rfl,?_⟩
  refine tT (by rw [Qa,hwt.1,hly]; exact aAp _) ?_
  refine ⟨_,rfl,wp,rfl,⟨_,hw1⟩,jA (K:=K) (a:=wp) (xs:=wt.map V.int) (vs:=(List.replicate wt.length true).map V.bl) (fun σ=>∃ v,σ = [v]) (by rw [Qa,hwt.1]; omega) (by simp) hw1 ⟨none,rfl⟩ ?_ ?_⟩
  ·rintro i u v σ H2 hu hv ⟨v0,rfl⟩ s2 Q' k'
   rw [aFe hv] at k'
   obtain ⟨z,hz,rfl⟩:=Jd.mp (Qh hu)
   have:=hwt.2 z hz
   refine ⟨_,rfl,.int z,.int z,rfl,dJ.mpr rfl,_,rfl,jY ?_⟩
   refine ⟨_,rfl,_,_,rfl,rfl,_,rfl,aEq (decide_eq_true this.1) ⟨_,_,rfl,rfl,?_⟩⟩
   show Q' (.bl (decide (z<=99))) _ _
   rw [decide_eq_true this.2]
   exact k' _ _ ⟨_,rfl⟩ (aE.refl _)
  ·intro H3 s3 p hp
   refine ⟨p,List.replicate wt.length true,rfl,SqL.of aB,?_⟩
   rw [show (List.replicate wt.length true).all id=true by simp]
   exact k _ (s1.trans (s3.trans (aE.new hp)))
def rP (K:PySem.W.Frag):Sp:=fun vs H Q _=>∃ (x:V) (n:Int) (ws:List (List Int)) (wp:Addr) (wt:List Int),vs = [x,.ref wp]/\Den K H (cW n ws) x/\cV (cW n ws)=true/\SqT K H wp (wt.map V.int)/\rN ws wt/\∀ H',aE H H'->Q .non H'
theorem aCC:FnScope ["book", "weights"] ["book", "weights"] (aH pB):=⟨rfl,rfl,rfl,by decide +kernel,rfl,by decide +kernel,by decide +kernel⟩
theorem aBd {f fA:Addr} {fd dA:FuncData} (G:Fn K mg "need_weights" pB ["book", "weights"] f fd) (GAW:Fn K mg "are_weights" qP ["book", "thing"] fA dA) (OAW:FnOk P w K mg base CX0 5 fA dA ["book", "thing"] (uX K)):FnOk P w K mg base CX0 6 f fd ["book", "weights"] (rP K):=by
 refine G.fn.ok aCC (fun vs H Q E h=>?_) (fun cdv A outer s H vs Q E hr h=>?_)
 ·obtain ⟨x,n,ws,wp,wt,rfl,_⟩:=h
  rfl
 ·obtain ⟨x,n,ws,wp,wt,rfl,hx,hbk,hw,hwt,k⟩:=h
  have r5:Room 5 _:=hr
  refine ⟨_,(aJ (fF (gX (fZ (bF GAW OAW r5 rfl (aA (pv 0) (aA (pv 1) aC)))))
   sX
   bX)),?_⟩
  exact ⟨_,rfl,_,rfl,x,n,ws,wp,wt,rfl,hx,hbk,hw,hwt,fun H1 s1=>⟨_,rfl,kY (k _ s1)⟩⟩
def nD (K:PySem.W.Frag):Sp:=fun vs H Q _=>∃ (p q:Addr) (l s:List Int),vs = [.ref p,.ref q]/\SqT K H p (l.map V.int)/\SqT K H q (s.map V.int)/\l.length<=1000/\∀ H',aE H H'->Q (.bl (kQ s l)) H'
theorem aCD:FnScope ["able", "some"] ["able", "some"] (aH lN):=⟨rfl,rfl,rfl,by decide +kernel,rfl,by decide +kernel,by decide +kernel⟩
theorem aBe {f:Addr} {fd:FuncData} (G:Fn K mg "is_within" lN ["able", "some"] f fd) (B:Bl mg):FnOk P w K mg base CX0 1 f fd ["able", "some"] (nD K):=by
 refine G.fn.ok aCD (fun vs H Q E h=>?_) (fun cdv A outer s H vs Q E hr h=>?_)
 ·obtain ⟨p,q,l,s,rfl,_⟩:=h
  rfl
 ·obtain ⟨p,q,l,s',rfl,hp,hq,hl,k⟩:=h
  refine ⟨_,(aJ (aY (aQ (pV rfl) rfl B.all aCe (aA (cO (own:=["hand"]) (fr:=[1]) (frn:=["some"]) (aX (aH lN) ["able", "some"] rfl rfl (by decide +kernel)) rfl (iK (pv 0))
    (fun _ _ _ _=>(aL (i:=0) (show (["hand", "some"]:List Str).Nodup by decide +kernel) rfl (Or.inl rfl))) (fun _ _ _ _=>cZ)
    (fun _ _ _ _=>(lJ (qV (K:=K) rfl) (pv 0) (pv 1) (by with_unfolding_all rfl)))) aC)))),?_⟩
  refine ⟨_,rfl,p,rfl,⟨_,hp⟩,jA (K:=K) (a:=p) (xs:=l.map V.int) (vs:=(l.map fun h=>decide (h∈s')).map V.bl) (fun σ=>∃ v,σ = [v,some (.ref q)]) (by rw [Qa]; exact hl) (by simp) hp ⟨none,rfl⟩ ?_ ?_⟩
  ·rintro i u v σ H2 hu hv ⟨v0,rfl⟩ s2 Q' k'
   rw [Qe] at hu hv
   obtain ⟨z,hz,rfl⟩:=Qz.mp hu
   rw [Qe,hz] at hv
   cases hv
   refine ⟨_,rfl,_,rfl,q,s'.map V.int,rfl,.inr (s2.seqT hq),rfl,lP _,?_⟩
   have e:inV (.int z) (s'.map V.int)=decide (z∈s'):=uV z s'
   show Q' (.bl (inV (.int z) (s'.map V.int))) _ _
   rw [e]
   exact k' _ _ ⟨_,rfl⟩ (aE.refl _)
  ·intro H3 s3 p2 hp2
   refine ⟨p2,_,rfl,SqL.of aB,?_⟩
   rw [show (l.map fun h=>decide (h∈s')).all id=kQ s' l by unfold kQ; rw [Qak]; rfl]
   exact k _ (s3.trans (aE.new hp2))
def yV (K:PySem.W.Frag):Sp:=fun vs H Q _=>∃ (l:Addr) (hs:List Int),vs = [.ref l]/\SqL K H l (hs.map V.int)/\hs.length<=6/\∀ p xs H',aE H H'->H p=none->H' p=some (.lst xs)->aR K H' ((iG hs).map eG) xs->Q (.ref p) H'
theorem uY:FnScope ["hands", "sets", "hand"] ["hands"] (aH wQ):=⟨rfl,rfl,rfl,by decide +kernel,rfl,by decide +kernel,by decide +kernel⟩
theorem aDT {f:Addr} {fd:FuncData} (G:Fn K mg "sets_of" wQ ["hands"] f fd) (B:Bl mg):FnOk P w K mg base CX0 1 f fd ["hands"] (yV K):=by
 refine G.fn.ok uY (fun vs H Q E h=>?_) (fun cdv A outer s H vs Q E hr h=>?_)
 ·obtain ⟨l,hs,rfl,_⟩:=h
  rfl
 ·obtain ⟨l,hs,rfl,hl,h6,k⟩:=h
  refine ⟨_,(aF (aT (i:=1) uY.nd rfl (Or.inl rfl) (eO (aA (cU aC) aC)))
  (aF (eJ PassesOwn.never rfl (cY (pv 0)) (aL (i:=2) uY.nd rfl (Or.inr rfl))
   (aJ (aT (i:=1) uY.nd rfl (Or.inl rfl) (aZ yC (pv 1) (cO (own:=["some"]) (fr:=[2]) (frn:=["hand"]) (aX (aH wQ) ["hands", "sets", "hand"] rfl rfl (by decide +kernel)) rfl (cY (pv 1))
    (fun _ _ _ _=>(aL (i:=0) (show (["some", "hand"]:List Str).Nodup by decide +kernel) rfl (Or.inl rfl))) (fun _ _ _ _=>cZ)
    (fun _ _ _ _=>(aZ (aBO (K:=K) rfl) (pv 0) (cU (aA (pv 1) aC)))))))))
  (aJ (aY (aBA aDh (pv 1) (aDe aI) aDd))))),?_⟩
  refine ⟨bR (Jj _),fun p0 h0=>⟨sz1 _,fun p1 h1=>?_⟩⟩
  have s1:=(aE.new (o:=.tup []) h0).trans (aE.new (o:=.lst [.ref p0]) h1)
  have n1:H p1=none:=(aE.new (o:=.tup []) h0).free h1
  have e1:upd (upd H p0 (.tup [])) p1 (.lst [.ref p0]) p1=some (.lst [.ref p0]):=aB
  have d1:aR K (upd (upd H p0 (.tup [])) p1 (.lst [.ref p0])) ((eT (hs.take 0)).map eG) [.ref p0]:=aK.mpr ⟨_,_,rfl,cM.mpr ⟨p0,rfl,(aE.new h1).seqT (SqT.of aB)⟩,aN.mpr rfl⟩
  generalize upd (upd H p0 (.tup [])) p1 (.lst [.ref p0])=H1 at s1 e1 d1 ⊢
  refine ⟨_,rfl,l,rfl,⟨_,s1.seqL hl⟩,iY (K:=K) (a:=l) (xs:=hs.map V.int) (fun i σ H2=>∃ q xs v,σ = [some (.ref l),some (.ref q),v]/\aE H H2/\H q=none/\H2 q=some (.lst xs)/\aR K H2 ((eT (hs.take i)).map eG) xs) ⟨p1,_,none,rfl,s1,n1,e1,d1⟩ (fun i σ H2 _ ⟨_,_,_,_,s2,_⟩=>s2.seqL hl) ?_ ?_⟩
  ·rintro i y σ H2 hy ⟨q,xs,v,rfl,s2,nq,hq,hd⟩
   rw [Qe] at hy
   obtain ⟨h,hh,rfl⟩:=Qz.mp hy
   have hi:i < hs.length:=(Qd.mp hh).1
   have hxl:xs.length=2^i:=by
    rw [aM hd,Qa,uW,Jk,Nat.min_eq_left (by omega)]
   have hx32:xs.length<=32:=by rw [hxl]; exact aDR (n:=5) (by omega)
   refine ⟨_,rfl,_,rfl,q,rfl,⟨_,SqL.of hq⟩,gY (K:=K) (a:=q) (xs:=xs) (fun σ=>∃ v,σ = [v,some (.int h)]) (fun j ys H3=>aE H2 H3/\aR K H3 (((eT (hs.take i)).take j).map fun t=>eG (t++[h])) ys) (bR (by omega)) ⟨none,rfl⟩ ⟨aE.refl _,aN.mpr rfl⟩ ?_ (fun j ys H3 ⟨s3,_⟩=>s3.seqL (SqL.of hq)) ?_ ?_⟩
   ·rintro j ys H3 ⟨_,hd3⟩
    rw [aM hd3,Qa,Jk]
    exact Xw _ _
   ·rintro j ys σ x H3 hx ⟨v0,rfl⟩ ⟨s3,hd3⟩ hz
    obtain ⟨d,hd1,hd2⟩:=iV (s3.denAll _ _ hd) hx
    rw [Qe] at hd1
    obtain ⟨t,ht,rfl⟩:=Qz.mp hd1
    obtain ⟨a,rfl,ha⟩:=cM.mp hd2
    have ht5:t.length<=i:=by
     have:=rO _ t (Qh ht)
     rw [Jk] at this
     omega
    refine ⟨_,rfl,_,rfl,sz1 _,fun pt hpt=>⟨a,pt,_,_,rfl,rfl,(aE.new hpt).seqT ha,SqT.of aB,bR (by rw [Qa]; show _+1<=_; omega),fun pc H4 s4 hpc=>?_⟩⟩
    have s34:=(aE.new (o:=.tup [.int h]) hpt).trans s4
    refine ⟨hz,⟨_,rfl⟩,s3.trans s34,?_⟩
    rw [Wk,ht,Qt]
    refine bV (s34.denAll _ _ hd3) (aK.mpr ⟨_,_,rfl,cM.mpr ⟨pc,rfl,?_⟩,aN.mpr rfl⟩)
    rw [Qt]
    exact hpc
   ·rintro ys H3 ⟨s3,hd3⟩ pn hpn
    have hyl:ys.length<=32:=by
     rw [aM hd3,Qa,Jk]
     omega
    refine ⟨q,pn,xs,ys,rfl,rfl,(s3.trans (aE.new hpn)) _ _ hq,aB,bR (by omega),fun pr hpr=>?_⟩
    have s35:=s3.trans ((aE.new (o:=.lst ys) hpn).trans (aE.new (o:=.lst (xs++ys)) hpr))
    refine ⟨pr,xs++ys,_,rfl,s2.trans s35,(s2.trans (s3.trans (aE.new hpn))).free hpr,aB,?_⟩
    rw [Wk,hh,show (some h).toList = [h] from rfl,jW,Qt,Xy]
    refine bV (s35.denAll _ _ hd) ?_
    have e:xs.length=(eT (hs.take i)).length:=by rw [aM hd,Qa]
    rw [e,Js] at hd3
    exact ((aE.new hpn).trans (aE.new hpr)).denAll _ _ hd3
  ·rintro σ H2 ⟨q,xs,v,rfl,s2,nq,hq,hd⟩
   refine ⟨_,rfl,_,rfl,q,xs,rfl,SqL.of hq,fun pr hpr=>?_⟩
   have e:yA xs (some 1) none=xs.drop 1:=aAL xs 1
   rw [e]
   rw [Qa,Js,gE,Jg] at hd
   obtain ⟨x,r,rfl,_,hr2⟩:=aK.mp hd
   exact k pr _ _ (s2.trans (aE.new hpr)) (s2.free hpr) aB ((aE.new hpr).denAll _ _ hr2)
def aEu (K:PySem.W.Frag):Sp:=fun vs H Q _=>∃ (t a:Addr) (ns:List Int) (m:Nat),vs = [.ref t,.int m]/\iF K H t a ns/\m<=12/\∀ (wt:List Int) p H',wt.length=m->(∀ w∈wt,0<=w/\w<=99)->But t H H'->iF K H' t a ns->SqT K H' p (wt.map V.int)->Q (.ref p) H'
theorem aEv:FnScope ["tape", "many", "way"] ["tape", "many"] (aH aCf):=⟨rfl,rfl,rfl,by decide +kernel,rfl,by decide +kernel,by decide +kernel⟩
theorem aFf {f fD:Addr} {fd dD:FuncData} (G:Fn K mg "_law_aweights" aCf ["tape", "many"] f fd) (B:Bl mg) (GD:Fn K mg "_law_adigit" mX ["tape", "many"] fD dD) (OD:FnOk P w K mg base CX0 1 fD dD ["tape", "many"] (pH K)):FnOk P w K mg base CX0 2 f fd ["tape", "many"] (aEu K):=by
 refine G.fn.ok aEv (fun vs H Q E h=>?_) (fun cdv A outer s H vs Q E hr h=>?_)
 ·obtain ⟨t,a,ns,m,rfl,_⟩:=h
  rfl
 ·obtain ⟨t,a,ns,m,rfl,hT,hm,k⟩:=h
  have r1:Room 1 _:=hr
  refine ⟨_,(aF (aT (i:=2) aEv.nd rfl (Or.inr rfl) (bF GD OD r1 rfl (aA (pv 0) (aA aI aC))))
  (aF (fF (bO sY (pv 2) aI (cG _))
   (aJ (aY (aZ (aDy (K:=K) rfl) (cU (aA aI aC)) (pv 1))))
   bX)
  (aJ (aY (dY eV rfl B.tuple gG (aA (cO (own:=["k"]) (fr:=[0,2]) (frn:=["tape", "way"]) (aX (aH aCf) ["tape", "many", "way"] rfl rfl (by decide +kernel)) rfl (cK rfl B.range (aA (pv 1) aC))
    (fun _ _ _ _=>(aL (i:=0) (show (["k", "tape", "way"]:List Str).Nodup by decide +kernel) rfl (Or.inl rfl))) (fun _ _ _ _=>cZ)
    (fun _ _ _ _=>(bF GD OD r1 rfl (aA (pv 1) (aA (aV (mS (K:=K) rfl) (eO (aA aI (aA aI (aA aI aC)))) (aZ xV (pv 2) aI) (fun _ _=>rfl)) aC))))) aC)))))),?_⟩
  refine ⟨_,rfl,t,a,ns,4,rfl,hT,by decide,by decide,fun wy H1 hw0 hw1 b1 T1=>?_⟩
  dsimp only [bN]
  refine ⟨_,rfl,rfl,_,rfl,?_⟩
  refine gW (fun c0=>?_) (fun c0=>?_)
  ·refine ⟨sz1 _,fun p0 h0=>⟨_,rfl,p0,m,_,rfl,rfl,SqT.of aB,by omega,by show 1<=1000; decide,fun q H2 s2 hq=>?_⟩⟩
   have s3:=(aE.new (o:=.tup [.int 1]) h0).trans s2
   refine k (List.replicate m 1) q H2 (by simp) (fun w hw=>by rw [Wl hw]; decide) (b1.trans (But.of s3)) (T1.same s3) ?_
   have e:∀ m:Nat,(List.replicate m [V.int 1]).flatten=(List.replicate m (1:Int)).map V.int:=fun m=>by
    induction m with
    | zero=>rfl
    | succ m ih=>rw [Xe,Xx,ih,Xe]; rfl
   rw [<- e m]
   exact hq
  ·have hw3:1<=wy:=by
    by_cases z:wy=0
    ·exact absurd (by rw [z]; rfl) c0
    ·omega
   refine ⟨_,rfl,m,rfl,by omega,by omega,fM (lo:=0) (n:=((m:Int)).toNat) (fun σ=>∃ v,σ = [v,some (.ref t),some (.int wy)]) (fun i ys H2=>∃ l:List Int,ys=l.map V.int/\l.length=i/\(∀ w∈l,0<=w/\w<=99)/\But t H1 H2/\iF K H2 t a ns) (bR (by omega)) ⟨none,rfl⟩ ⟨[],rfl,rfl,fun _ h=>(Ja h).elim,But.refl _ _,T1⟩ ?_ ?_ ?_⟩
   ·rintro i ys H2 ⟨l,rfl,hl,_⟩
    rw [Qa,hl]; exact Qk _
   ·rintro i ys σ H2 hi ⟨v,rfl⟩ ⟨l,rfl,hl,hl2,b2,T2⟩ hz
    refine ⟨_,rfl,bR (show 3<=1000 by decide),fun lp hlp=>?_⟩
    obtain ⟨M,hM,hM0,hM1⟩:∃ M:Int,atI [V.int 3,V.int 10,V.int 100] (wy - 1)=some (.int M)/\0 < M/\M<=100:=by
     have:wy=1∨wy=2∨wy=3:=by omega
     rcases this with rfl | rfl | rfl
     ·exact ⟨3,rfl,by decide,by decide⟩
     ·exact ⟨10,rfl,by decide,by decide⟩
     ·exact ⟨100,rfl,by decide,by decide⟩
    have s3:=aE.new (o:=.lst [V.int 3,V.int 10,V.int 100]) hlp
    refine ⟨_,rfl,_,_,rfl,rfl,lp,_,_,_,rfl,rfl,SqL.of aB,hM,t,a,ns,M,rfl,T2.same s3,hM0,by omega,fun r H4 hr0 hr1 b4 T4=>?_⟩
    refine ⟨hz,⟨_,rfl⟩,l++[r],by simp,by simp [hl],fun w hw=>?_,b2.trans ((But.of s3).trans b4),T4⟩
    rcases Jm.mp hw with hw | hw
    ·exact hl2 w hw
    ·rw [Qo.mp hw]; omega
   ·rintro ys H2 ⟨l,rfl,hl,hl2,b2,T2⟩ lp hlp
    refine ⟨lp,_,rfl,.inl ⟨SqL.of aB,fun q hq=>?_⟩⟩
    have s3:=(aE.new (o:=.lst (l.map V.int)) hlp).trans (aE.new (o:=.tup (l.map V.int)) hq)
    exact k l q _ (by omega) hl2 (b1.trans (b2.trans (But.of s3))) (T2.same s3) (SqT.of aB)
def pD (r:List Int×Int):PyData:=xB r.1 r.2
theorem aCE (rows:bU) (s:List Int):wIn rows (inS s)=aD ((rows.filter fun r=>kQ s r.1).map (·.2)):=uR _ (fun r:List Int×Int=>r.1.all (inS s)) rows
def RwS (rows:bU):Prop:=∀ r∈rows,r.1.length<=6/\0<=r.2/\r.2<=99
theorem aCF {rows:bU} (h:RwS rows) (p:Int->Bool):0<=wIn rows p/\wIn rows p<=rows.length*99:=by
 refine ⟨eU fun r hr=>?_,?_⟩
 ·have:=h r hr
  by_cases c:r.1.all p=true
  ·rw [if_pos c]; omega
  ·rw [if_neg c]; exact Jw _
 ·rw [<- hU (f:=fun _:List Int×Int=>(99:Int)) (l:=rows) fun _ _=>rfl]
  refine cC fun r hr=>?_
  have:=h r hr
  by_cases c:r.1.all p=true
  ·rw [if_pos c]; omega
  ·rw [if_neg c]; omega
theorem gI {i:Int} (h:i.natAbs<=1000000):i.natAbs < 2^4000:=Qi (Jy h (show 1000000 < 2^20 by decide)) (Zf (by decide) (by decide))
def yW (K:PySem.W.Frag):Sp:=fun vs H Q _=>∃ (lp rp:Addr) (hs:List Int) (zs:List V) (rows:bU),vs = [.ref lp,.ref rp]/\SqL K H lp (hs.map V.int)/\SqL K H rp zs/\aR K H (rows.map pD) zs/\hs.length<=6/\rows.length<=12/\RwS rows /\
 ∀ p q b m H',aE H H'->SqT K H' p [.ref q,.int m]->SqT K H' q (b.map V.int)->mH rows (iG hs) b m->Q (.ref p) H'
theorem fU:FnScope ["hands", "rows", "best", "most", "some", "weight", "more"] ["hands", "rows"] (aH kA):=⟨rfl,rfl,rfl,by decide +kernel,rfl,by decide +kernel,by decide +kernel⟩
theorem aDU {f fS fI:Addr} {fd dS dI:FuncData} (G:Fn K mg "heaviest" kA ["hands", "rows"] f fd) (B:Bl mg) (GSt:Fn K mg "sets_of" wQ ["hands"] fS dS) (OSt:FnOk P w K mg base CX0 1 fS dS ["hands"] (yV K)) (GWi:Fn K mg "is_within" lN ["able", "some"] fI dI) (OWi:FnOk P w K mg base CX0 1 fI dI ["able", "some"] (nD K)):FnOk P w K mg base CX0 2 f fd ["hands", "rows"] (yW K):=by
 refine G.fn.ok fU (fun vs H Q E h=>?_) (fun cdv A outer s H vs Q E hr h=>?_)
 ·obtain ⟨lp,rp,hs,zs,rows,rfl,_⟩:=h
  rfl
 ·obtain ⟨lp,rp,hs,zs,rows,rfl,hlp,hrp,hd,h6,h12,hrw,k⟩:=h
  have r1:Room 1 _:=hr
  refine ⟨_,(aF (aT (i:=2) fU.nd rfl (Or.inl rfl) (cU aC))
  (aF (aT (i:=3) fU.nd rfl (Or.inl rfl) aI)
  (aF (eJ PassesOwn.never rfl (cY (bF GSt OSt r1 rfl (aA (pv 0) aC))) (aL (i:=4) fU.nd rfl (Or.inr rfl))
   (aF (aT (i:=5) fU.nd rfl (Or.inl rfl) (aQ (aBH rfl) rfl B.sum aF6 (aA (cO (own:=["able", "heft"]) (fr:=[4]) (frn:=["some"]) (aX (aH kA) ["hands", "rows", "best", "most", "some", "weight", "more"] rfl rfl (by decide +kernel)) rfl (cY (pv 1))
    (fun _ _ _ _=>(kN (K:=K) (n:=2) rfl rfl (aW (aL (i:=0) (show (["able", "heft", "some"]:List Str).Nodup by decide +kernel) rfl (Or.inl rfl)) (aW (aL (i:=1) (show (["able", "heft", "some"]:List Str).Nodup by decide +kernel) rfl (Or.inl rfl)) dF)))) (fun _ _ _ _=>kH (fZ (bF GWi OWi r1 rfl (aA (pv 0) (aA (pv 2) aC)))))
    (fun _ _ _ _=>(pv 1))) aC)))
  (aF (aT (i:=6) fU.nd rfl (Or.inl rfl) (aZ xV (aZ dQ (pv 5) (aQ aU rfl B.len eZ (aA (pv 2) aC))) (aZ dQ (pv 3) (aQ aU rfl B.len eZ (aA (pv 4) aC)))))
  (aJ (fF (PW.pt (oI (bO lV (pv 6) aI (cG _)) (mB (PW.pt (aEI (bO sY (pv 6) aI (cG _)) (aC5 (bO lV (aQ aU rfl B.len eZ (aA (pv 4) aC)) (aQ aU rfl B.len eZ (aA (pv 2) aC)) (cG _))))))))
   (aF (aT (i:=2) fU.nd rfl (Or.inl rfl) (pv 4))
  (aJ (aT (i:=3) fU.nd rfl (Or.inl rfl) (pv 5))))
   bX)))))
  (aJ (aY (cU (aA (pv 2) (aA (pv 3) aC)))))))),?_⟩
  have hzl:=aM hd
  rw [Qa] at hzl
  refine ⟨bR (Jj _),fun p0 h0=>?_⟩
  have s1:=aE.new (o:=.tup []) h0
  have e1:SqT K (upd H p0 (.tup [])) p0 (([]:List Int).map V.int):=SqT.of aB
  generalize upd H p0 (.tup [])=H1 at s1 e1 ⊢
  refine ⟨_,rfl,lp,hs,rfl,s1.seqL hlp,h6,fun sp xs H2 s2 nsp hsp hxs=>?_⟩
  have s12:=s1.trans s2
  refine ⟨sp,rfl,⟨_,SqL.of hsp⟩,iY (K:=K) (a:=sp) (xs:=xs) (fun i σ H3=>∃ b q m v4 v5 v6,σ = [some (.ref lp),some (.ref rp),some (.ref q),some (.int m),v4,v5,v6]/\aE H2 H3/\SqT K H3 q (b.map V.int)/\mH rows ((iG hs).take i) b m/\b.length<=6/\0<=m/\m<=10000) ⟨[],p0,0,none,none,none,rfl,aE.refl _,s2.seqT e1,.inl ⟨rfl,rfl,rfl⟩,by simp,by decide,by decide⟩ (fun i σ H3 _ ⟨_,_,_,_,_,_,_,s3,_⟩=>s3.seqL (SqL.of hsp)) ?_ ?_⟩
  ·rintro i x σ H3 hx ⟨b,q,m,v4,v5,v6,rfl,s3,hq,hb,hb6,hm0,hm1⟩
   obtain ⟨t,ht,htd⟩:=cE hxs hx
   obtain ⟨a,rfl,ha⟩:=cM.mp htd
   have ha3:=s3.seqT ha
   have htm:t∈iG hs:=Qh ht
   have ht6:t.length<=6:=Qv (oQ hs t htm) h6
   have s13:=s12.trans s3
   have hW:=aCF hrw (inS t)
   refine ⟨_,rfl,rp,rfl,⟨_,s13.seqL hrp⟩,gY (K:=K) (a:=rp) (xs:=zs) (fun σ=>∃ v w,σ = [v,w,some (.ref a)]) (fun j ys H4=>aE H3 H4/\ys=(((rows.take j).filter fun r=>kQ t r.1).map (·.2)).map V.int) (bR (by omega)) ⟨none,none,rfl⟩ ⟨aE.refl _,rfl⟩ ?_ (fun j ys H4 ⟨s4,_⟩=>(s13.trans s4).seqL hrp) ?_ ?_⟩
   ·rintro j ys H4 ⟨_,rfl⟩
    rw [Qa,Qa]
    exact Qv (Je _ _) (by rw [Jk]; exact Xw _ _)
   ·rintro j ys σ y H4 hy ⟨v,w,rfl⟩ ⟨s4,rfl⟩ hz
    obtain ⟨r,hr,hrd⟩:=cE hd hy
    obtain ⟨pp,pq,rfl,hpp,hpq⟩:=rM hrd
    have s14:=s13.trans s4
    obtain ⟨r6,r0,r99⟩:=hrw r (Qh hr)
    refine ⟨pp,_,rfl,s14.seqT hpp,rfl,_,_,rfl,_,_,rfl,rfl,?_⟩
    refine ⟨_,rfl,_,rfl,pq,a,r.1,t,rfl,s14.seqT hpq,s4.seqT ha3,by omega,fun H5 s5=>⟨_,rfl,?_⟩⟩
    rw [cF hr,Xu,Qt,Qt]
    cases hw:kQ t r.1 with
    | true =>
     refine jY ?_
     refine ⟨_,rfl,hz,⟨_,_,rfl⟩,s4.trans s5,?_⟩
     rw [Qx,hw]; rfl
    | false =>
     refine kY ?_
     refine ⟨⟨_,_,rfl⟩,s4.trans s5,?_⟩
     rw [Qx,hw]
     show _=_++[]
     rw [Xh]
   ·rintro ys H4 ⟨s4,rfl⟩ pn hpn
    rw [hzl,Js]
    have s5:=aE.new (o:=.lst (((rows.filter fun r=>kQ t r.1).map (·.2)).map V.int)) hpn
    refine ⟨pn,_,rfl,SqL.of aB,fun x hx=>?_,?_,?_⟩
    ·obtain ⟨r,hr,rfl⟩:=Jd.mp hx
     have:=hrw r (Qy.mp hr).1
     omega
    ·rw [Qa]; exact Qv (Je _ _) (by omega)
    ·rw [<- aCE]
     have s35:=s4.trans s5
     generalize upd H4 pn _=H5 at s35 ⊢
     dsimp only [bN]
     refine ⟨_,rfl,_,rfl,q,_,rfl,.inr (s35.seqT hq),_,_,rfl,rfl,⟨gI (by omega),gI (by rw [Qa]; omega)⟩,_,rfl,_,rfl,a,_,rfl,.inr (s35.seqT ha3),_,_,rfl,rfl,⟨gI (by omega),gI (by rw [Qa]; omega)⟩,_,_,rfl,rfl,?_⟩
     rw [Qa,Qa]
     obtain ⟨c1,c2⟩:=aA3 (s:=t) (fun u hu=>rB hs u (Ze hu)) (rB hs t htm) hb
     rw [<- cF ht] at c1 c2
     dsimp only [bN]
     have stay:¬ (0 < wIn rows (inS t)*b.length - m*t.length∨wIn rows (inS t)*b.length - m*t.length=0/\(b.length:Int) < t.length)->∀ x4 x5 x6,∃ b' q' m' v4 v5 v6,([some (.ref lp),some (.ref rp),some (.ref q),some (.int m),x4,x5,x6]:St) = [some (.ref lp),some (.ref rp),some (.ref q'),some (.int m'),v4,v5,v6]/\aE H2 H5/\SqT K H5 q' (b'.map V.int)/\mH rows ((iG hs).take (i+1)) b' m'/\b'.length<=6/\0<=m'/\m'<=10000:=fun c _ _ _=>⟨b,q,m,_,_,_,rfl,s3.trans s35,s35.seqT hq,c2 c,hb6,hm0,hm1⟩
     refine ⟨_,rfl,_,_,rfl,rfl,_,rfl,?_⟩
     refine gW (fun d=>?_) (fun d=>?_)
     ·exact ⟨_,rfl,_,rfl,t,a,_,_,_,_,rfl,s3.trans s35,s35.seqT ha3,c1 (.inl (of_decide_eq_true d)),ht6,hW.1,by omega⟩
     ·have n1:¬ 0 < wIn rows (inS t)*b.length - m*t.length:=fun z=>d (decide_eq_true z)
      refine ⟨_,rfl,rfl,_,rfl,?_⟩
      refine gW (fun d2=>?_) (fun d2=>?_)
      ·have e2:wIn rows (inS t)*b.length - m*t.length=0:=by simpa using d2
       refine ⟨_,rfl,a,_,rfl,.inr (s35.seqT ha3),_,rfl,q,_,rfl,.inr (s35.seqT hq),_,_,rfl,rfl,_,rfl,?_⟩
       rw [Qa,Qa]
       refine gW (fun d3=>?_) (fun d3=>?_)
       ·exact ⟨_,rfl,_,rfl,t,a,_,_,_,_,rfl,s3.trans s35,s35.seqT ha3,c1 (.inr ⟨e2,of_decide_eq_true d3⟩),ht6,hW.1,by omega⟩
       ·exact stay (fun z=>z.elim n1 fun z=>d3 (decide_eq_true z.2)) _ _ _
      ·exact stay (fun z=>z.elim n1 fun z=>d2 (by rw [z.1]; rfl)) _ _ _
  ·rintro σ H3 ⟨b,q,m,v4,v5,v6,rfl,s3,hq,hb,_⟩
   have hl:=aM hxs
   rw [Qa] at hl
   rw [hl,Js] at hb
   exact ⟨_,rfl,_,rfl,bR (show 2<=1000 by decide),fun p hp=>k p q b m _ (s12.trans (s3.trans (aE.new hp))) (SqT.of aB) ((aE.new hp).seqT hq) hb⟩
end
def aDV:Scope:=match (eY hX).getD 4 (.Pass ⟨0,0,0,0⟩) with
 | .While _ [_,_,_,_,.Assign _ (.ListComp _ _ sc _) _] _ _=>sc
 | _=>{ kind:=.function,names:=[],isGenerator:=false,isCoroutine:=false }
def sV (b:List Int×Int):PyData:=.tuple [eG b.1,jF (bM (b.2,(b.1.length:Int)))]
theorem xD (x:Int×Int):eC (jF x)=true:=by
 unfold jF eC dO eC dO eC dO
 rfl
theorem rQ (b:List Int×Int):eC (sV b)=true:=by
 unfold sV eC dO
 rw [iE]
 unfold dO
 rw [xD]
 unfold dO
 rfl
theorem aCG {K:PySem.W.Frag} {H:Hp} {b:List Int×Int} {p q r:Addr} (h1:SqT K H p [.ref q,.ref r]) (h2:SqT K H q (b.1.map V.int)) (h3:SqT K H r [.int (bM (b.2,(b.1.length:Int))).1,.int (bM (b.2,(b.1.length:Int))).2]):Den K H (sV b) (.ref p) :=
 bJ.mpr ⟨p,_,rfl,h1,aK.mpr ⟨_,_,rfl,cM.mpr ⟨q,rfl,h2⟩,aK.mpr ⟨_,_,rfl,dU.mpr ⟨r,rfl,h3⟩,aN.mpr rfl⟩⟩⟩
theorem aDW {K:PySem.W.Frag} {H:Hp} {b:List Int×Int} {v:V} (h:Den K H (sV b) v):∃ p q r,v=.ref p/\SqT K H p [.ref q,.ref r]/\SqT K H q (b.1.map V.int)/\SqT K H r [.int (bM (b.2,(b.1.length:Int))).1,.int (bM (b.2,(b.1.length:Int))).2]:=by
 obtain ⟨p,xs,rfl,hp,hx⟩:=bJ.mp h
 obtain ⟨x1,r1,rfl,d1,hr1⟩:=aK.mp hx
 obtain ⟨x2,r2,rfl,d2,hr2⟩:=aK.mp hr1
 rw [aN.mp hr2] at hp
 obtain ⟨q,rfl,hq⟩:=cM.mp d1
 obtain ⟨r,rfl,hr⟩:=dU.mp d2
 exact ⟨p,q,r,rfl,hp,hq,hr⟩
theorem rR (i:Int) (l:List Int):(!inV (.int i) (l.map V.int))=!inS l i:=by rw [uV]; rfl
theorem xE (rows:bU) (s:List Int):(redu rows s).length<=rows.length:=by unfold redu; rw [Qa]; exact Je _ _
theorem RwS.redu {rows:bU} {s:List Int} (h:RwS rows):RwS (redu rows s):=fun r hr=>by
 obtain ⟨r0,h0,rfl⟩:=Jd.mp hr
 obtain ⟨a,b,c⟩:=h r0 (Qy.mp h0).1
 exact ⟨Qv (Je _ _) a,b,c⟩
theorem kD {n:Int} {ws:List (List Int)} {wt:List Int} (hb:cV (cW n ws)=true) (hw:rN ws wt):eD (aO n.toNat) (ws.zip wt)/\RwS (ws.zip wt)/\(ws.zip wt).length<=12:=by
 obtain ⟨h1,h2,h3,h4⟩:=cX hb
 have key:∀ r∈ws.zip wt,r.1≠[]/\(∀ h∈r.1,h∈aO n.toNat)/\r.1.length<=6/\0<=r.2/\r.2<=99:=fun r hr=>by
  obtain ⟨a,b⟩:=Yo hr
  obtain ⟨c1,c2,c3⟩:=gJ (h4 _ a)
  have:=kO (by omega) c2 c3
  have:=hw.2 _ b
  exact ⟨c1,fun h hh=>bE.mpr (by have:=c2 h hh; omega),by omega,this⟩
 exact ⟨fun r hr=>⟨(key r hr).1,(key r hr).2.1,(key r hr).2.2.2.1⟩,fun r hr=>(key r hr).2.2,by rw [List.length_zip]; omega⟩
section
variable {P:Program} {w:World} {K:PySem.W.Frag} {mg:Str->Option Value} {base:Heap}
theorem aDX {H:Hp} {ws:List (List Int)} {wt:List Int} {xs zs:List V} (hx:aR K H (ws.map eG) xs) (hl:wt.length=ws.length) (hz:zs.length=min xs.length (wt.map V.int).length) (hp:Prs H xs (wt.map V.int) zs):aR K H ((ws.zip wt).map pD) zs:=by
 have hxl:=aM hx
 rw [Qa] at hxl
 rw [Qa] at hz
 refine nY (by rw [Qa,List.length_zip]; omega) fun i d z h1 h2=>?_
 obtain ⟨q,x,y,rfl,h3,h4,h5⟩:=hp i z h2
 rw [Qe] at h1 h4
 obtain ⟨r,hr,rfl⟩:=Qz.mp h1
 obtain ⟨g,hg,rfl⟩:=Qz.mp h4
 obtain ⟨l,hl2,hl3⟩:=cE hx h3
 obtain ⟨a,rfl,ha⟩:=cM.mp hl3
 rw [Zd] at hr
 rw [hl2,hg] at hr
 have e1:l=r.1:=Option.some.inj hr.1
 have e2:g=r.2:=Option.some.inj hr.2
 rw [e1] at ha
 rw [e2] at h5
 exact nZ (SqT.of h5) ha
def nE (K:PySem.W.Frag):Sp:=fun vs H Q _=>∃ (x:V) (n:Int) (ws:List (List Int)) (wp:Addr) (wt:List Int),vs = [x,.ref wp]/\Den K H (cW n ws) x/\cV (cW n ws)=true/\SqT K H wp (wt.map V.int)/\rN ws wt /\
 ∀ p us bs H',aE H H'->H p=none->H' p=some (.lst us)->aR K H' (bs.map sV) us->eI (aO n.toNat) (ws.zip wt) bs->us.length<=6->Q (.ref p) H'
theorem gS:FnScope ["book", "weights", "left", "rows", "told", "some", "weight"] ["book", "weights"] (aH hX):=⟨rfl,rfl,rfl,by decide +kernel,rfl,by decide +kernel,by decide +kernel⟩
theorem aBf {f fN fV fL fI:Addr} {fd dN dV dL dI:FuncData} (G:Fn K mg "blocks" hX ["book", "weights"] f fd) (B:Bl mg) (GNW:Fn K mg "need_weights" pB ["book", "weights"] fN dN) (ONW:FnOk P w K mg base CX0 6 fN dN ["book", "weights"] (rP K)) (GHv:Fn K mg "heaviest" kA ["hands", "rows"] fV dV) (OHv:FnOk P w K mg base CX0 2 fV dV ["hands", "rows"] (yW K))
  (GL:Fn K mg "lowest" kL ["a", "b"] fL dL) (OL:FnOk P w K mg base CX0 2 fL dL ["a", "b"] gR) (GWi:Fn K mg "is_within" lN ["able", "some"] fI dI) (OWi:FnOk P w K mg base CX0 1 fI dI ["able", "some"] (nD K)):FnOk P w K mg base CX0 7 f fd ["book", "weights"] (nE K):=by
 refine G.fn.ok gS (fun vs H Q E h=>?_) (fun cdv A outer s H vs Q E hr h=>?_)
 ·obtain ⟨x,n,ws,wp,wt,rfl,_⟩:=h
  rfl
 ·obtain ⟨x,n,ws,wp,wt,rfl,hx,hbk,hwp,hwt,k⟩:=h
  have r6:Room 6 _:=hr
  have r2:Room 2 _:=hr.mono (by decide)
  have r1:Room 1 _:=hr.mono (by decide)
  refine ⟨_,(aF (lI (bF GNW ONW r6 rfl (aA (pv 0) (aA (pv 1) aC))))
  (aF (aT (i:=2) gS.nd rfl (Or.inl rfl) (dY (sK rfl) rfl B.list aCd (aA (dY vU rfl B.range zY (aA (aV bB (pv 0) aI (fun _ _=>rfl)) aC)) aC)))
  (aF (aT (i:=3) gS.nd rfl (Or.inl rfl) (yI .t .t rfl rfl B.list rfl B.zip (aA (aV bB (pv 0) aI (fun _ _=>rfl)) (aA (pv 1) aC))))
  (aF (aT (i:=4) gS.nd rfl (Or.inl rfl) (eO aC))
  (aF (jX PassesOwn.never (vO (pv 2) (fun _=>rfl))
   (aF (kW (bF GHv OHv r2 rfl (aA (pv 2) (aA (pv 3) aC))) (iX rfl (aW (aL (i:=5) gS.nd rfl (Or.inr rfl)) (aW (aL (i:=6) gS.nd rfl (Or.inl rfl)) dF))))
  (aF (lI (pS PySem.F.plainAttrs_list PySem.F.slot_list_append PySem.F.type_list_append lL (pv 4) (aA (cU (aA (pv 5) (aA (bF GL OL r2 rfl (aA (pv 6) (aA (aQ aU rfl B.len eZ (aA (pv 5) aC)) aC))) aC))) aC)))
  (aF (eP (i:=2) (own:=["hand"]) (fr:=[5]) (frn:=["some"]) (aX (aH hX) ["book", "weights", "left", "rows", "told", "some", "weight"] rfl rfl (by decide +kernel)) rfl gS.nd rfl rfl rfl (cY (pv 2))
    (fun _ _ _ _=>(aL (i:=0) (show (["hand", "some"]:List Str).Nodup by decide +kernel) rfl (Or.inl rfl))) (fun _ _ _ _=>kH (bO (lY (K:=K) rfl) (pv 0) (pv 1) (by with_unfolding_all rfl)))
    (fun _ _ _ _=>(pv 0)))
  (aF (eP (i:=3) (own:=["able", "heft"]) (fr:=[5]) (frn:=["some"]) (aX (aH hX) ["book", "weights", "left", "rows", "told", "some", "weight"] rfl rfl (by decide +kernel)) rfl gS.nd rfl rfl rfl (cY (pv 3))
    (fun _ _ _ _=>(kN (K:=K) (n:=2) rfl rfl (aW (aL (i:=0) (show (["able", "heft", "some"]:List Str).Nodup by decide +kernel) rfl (Or.inl rfl)) (aW (aL (i:=1) (show (["able", "heft", "some"]:List Str).Nodup by decide +kernel) rfl (Or.inl rfl)) dF)))) (fun _ _ _ _=>kH (gX (fZ (bF GWi OWi r1 rfl (aA (pv 0) (aA (pv 2) aC))))))
    (fun _ _ _ _=>(cU (aA (pv 0) (aA (pv 1) aC)))))
  (aJ (eP (i:=3) (own:=["able", "heft"]) (fr:=[5]) (frn:=["some"]) (aX (aH hX) ["book", "weights", "left", "rows", "told", "some", "weight"] rfl rfl (by decide +kernel)) rfl gS.nd rfl rfl rfl (cY (pv 3))
    (fun _ _ _ _=>(kN (K:=K) (n:=2) rfl rfl (aW (aL (i:=0) (show (["able", "heft", "some"]:List Str).Nodup by decide +kernel) rfl (Or.inl rfl)) (aW (aL (i:=1) (show (["able", "heft", "some"]:List Str).Nodup by decide +kernel) rfl (Or.inl rfl)) dF)))) (fun _ _ _ _=>cZ)
    (fun _ _ _ _=>(cU (aA (dY (lD (K:=K) rfl) rfl B.tuple gG (aA (cO (own:=["hand"]) (fr:=[2]) (frn:=["some"]) (aX (aDm aDV (aH hX)) ["able", "heft", "some"] rfl rfl (by decide +kernel)) rfl (uU (K:=K) rfl (pv 0))
    (fun _ _ _ _=>(aL (i:=0) (show (["hand", "some"]:List Str).Nodup by decide +kernel) rfl (Or.inl rfl))) (fun _ _ _ _=>kH (bO (lY (K:=K) rfl) (pv 0) (pv 1) (by with_unfolding_all rfl)))
    (fun _ _ _ _=>(pv 0))) aC)) (aA (pv 1) aC)))))))))))
  (aJ (aY (pv 4)))))))),?_⟩
  obtain ⟨a,b,ys,rfl,ha,hb,hys⟩:=iD hx
  have hly:=aM hys
  rw [Qa] at hly
  obtain ⟨hn1,hn6,h12,_⟩:=cX hbk
  obtain ⟨RO,RS,RL⟩:=kD hbk hwt
  refine ⟨_,rfl,_,rfl,_,n,ws,wp,wt,rfl,hx,hbk,hwp,hwt,fun H1 s1=>?_⟩
  refine ⟨_,rfl,a,_,0,.int n,rfl,rfl,s1.seqT ha,rfl,n,rfl,fun pr hpr=>⟨pr,n.toNat,rfl,by rw [aB,Int.toNat_of_nonneg (by omega)],by omega,fun lp hlp=>?_⟩⟩
  have s2:=s1.trans ((aE.new (o:=.rng 0 n) hpr).trans (aE.new (o:=.lst ((aO n.toNat).map V.int)) hlp))
  have el:upd (upd H1 pr (.rng 0 n)) lp (.lst ((aO n.toNat).map V.int)) lp=some (.lst ((aO n.toNat).map V.int)):=aB
  generalize upd (upd H1 pr (.rng 0 n)) lp (.lst ((aO n.toNat).map V.int))=H2 at s2 el ⊢
  refine ⟨_,rfl,a,_,1,.ref b,rfl,rfl,s2.seqT ha,rfl,_,rfl,b,wp,ys,_,rfl,s2.seqT hb,s2.seqT hwp,by rw [sizeLine_eq]; omega,fun rp zs H3 s3 nrp hrp hzl hprs=>?_⟩
  have s23:=s2.trans s3
  have D3:aR K H3 ((ws.zip wt).map pD) zs:=aDX (s23.denAll _ _ hys) hwt.1 hzl hprs
  refine ⟨bR (Jj _),fun tp htp=>?_⟩
  have s34:=aE.new (o:=.lst []) htp
  have ntp:H tp=none:=s23.free htp
  have et:upd H3 tp (.lst []) tp=some (.lst []):=aB
  have el4:=s34 _ _ (s3 _ _ el)
  have er4:=s34 _ _ hrp
  have nl:lp≠tp:=fun z=>by rw [<- z,s3 _ _ el] at htp; cases htp
  have nr:rp≠tp:=fun z=>by rw [<- z,hrp] at htp; cases htp
  have D4:=s34.denAll _ _ D3
  have s4:=s23.trans s34
  generalize upd H3 tp (.lst [])=H4 at s34 et el4 er4 D4 s4 ⊢
  -- the while
  refine ⟨fun m σ H5=>∃ lp rp hs zs rows us bs v5 v6,m=hs.length/\σ = [some (.ref a),some (.ref wp),some (.ref lp),some (.ref rp),some (.ref tp),v5,v6]/\aE H H5/\lp≠tp/\rp≠tp/\H5 lp=some (.lst (hs.map V.int))/\H5 rp=some (.lst zs)/\H5 tp=some (.lst us)/\aR K H5 (rows.map pD) zs/\aR K H5 (bs.map sV) us/\us.length+hs.length<=6/\hs.Nodup/\eD hs rows/\RwS rows/\rows.length<=12/\∀ iP,eI hs rows iP->eI (aO n.toNat) (ws.zip wt) (bs++iP),
   ⟨_,lp,rp,aO n.toNat,zs,ws.zip wt,[],[],none,none,rfl,rfl,s4,nl,nr,el4,er4,et,D4,aN.mpr rfl,by rw [bH]; show 0+_<=6; omega,jS _,RO,RS,RL,fun iP h=>h⟩,?_⟩
  rintro m σ H5 ⟨lp,rp,hs,zs,rows,us,bs,v5,v6,rfl,rfl,s5,nl,nr,el,er,et,DR,DB,hlen,hnd,RO,RS,RL,hcont⟩
  refine ⟨_,rfl,!(hs.map V.int).isEmpty,.inl ⟨_,SqL.of el,rfl⟩,?_⟩
  by_cases hne:hs = []
  ·subst hne
   refine kY ?_
   refine ⟨_,rfl,k tp us bs H5 s5 ntp et DB ?_ (by simpa using hlen)⟩
   have:=hcont [] rfl
   rwa [Xh] at this
  ·refine aEq (by cases hs with
    | nil=>exact absurd rfl hne
    | cons _ _=>rfl) ?_
   refine ⟨fun σ' H'=>∃ m',m' < hs.length/\∃ lp rp hs zs rows us bs v5 v6,m'=Yp hs/\σ' = [some (.ref a),some (.ref wp),some (.ref lp),some (.ref rp),some (.ref tp),v5,v6]/\aE H H'/\lp≠tp/\rp≠tp/\H' lp=some (.lst (hs.map V.int))/\H' rp=some (.lst zs)/\H' tp=some (.lst us)/\aR K H' (rows.map pD) zs/\aR K H' (bs.map sV) us/\us.length+hs.length<=6/\hs.Nodup/\eD hs rows/\RwS rows/\rows.length<=12/\∀ iP,eI hs rows iP->eI (aO n.toNat) (ws.zip wt) (bs++iP),fun σ' H' z=>z,?_⟩
   refine ⟨_,rfl,_,rfl,lp,rp,hs,zs,rows,rfl,SqL.of el,SqL.of er,DR,by omega,RL,RS,fun p q c mm H6 s6 hp hq hbest=>?_⟩
   have HV:=aDK hnd RO hne hbest
   obtain ⟨c1,c2,c3,_⟩:=id HV
   have cl:c.length<=6:=by rw [c2]; exact Qv (Je _ _) (by omega)
   have c0:0 < c.length:=Xb.mpr c1
   refine ⟨p,_,rfl,hp,rfl,_,_,rfl,_,_,rfl,rfl,?_⟩
   refine ⟨_,rfl,.inl ⟨rfl,_,SqL.of (s6 _ _ et)⟩,_,rfl,_,rfl,_,rfl,q,_,rfl,.inr hq,mm,_,rfl,by rw [Qa]; omega,?_,fun pf hpf=>⟨bR (show 2<=1000 by decide),fun pb hpb=>?_⟩⟩
   ·rw [Qa]
    have:((c.length:Nat):Int)<=6:=by omega
    exact Xv this (by decide)
   -- told,one block more
   have hlc:(((c.map V.int).length:Nat):Int)=c.length:=by rw [Qa]
   rw [hlc] at hpb ⊢
   have s7:=(aE.new (o:=.tup [.int (bP mm c.length),.int (bI mm c.length)]) hpf).trans (aE.new (o:=.tup [.ref q,.ref pf]) hpb)
   have db:Den K (upd (upd H6 pf (.tup [.int (bP mm c.length),.int (bI mm c.length)])) pb (.tup [.ref q,.ref pf])) (sV (c,mm)) (.ref pb):=aCG (SqT.of aB) (s7.seqT hq) ((aE.new hpb).seqT (SqT.of aB))
   generalize upd (upd H6 pf (.tup [.int (bP mm c.length),.int (bI mm c.length)])) pb (.tup [.ref q,.ref pf])=H7 at s7 db ⊢
   have s67:=s6.trans s7
   have et7:=s67 _ _ et
   refine ⟨tp,us,.ref pb,rfl,rfl,et7,by rw [sizeLine_eq]; omega,?_⟩
   have b8:But tp H7 (upd H7 tp (.lst (us++[.ref pb]))):=But.at
   have s8:aE H (upd H7 tp (.lst (us++[.ref pb]))):=aCA (s5.trans s67) ntp
   have el8:upd H7 tp (.lst (us++[.ref pb])) lp=_:=(aG nl).trans (s67 _ _ el)
   have er8:upd H7 tp (.lst (us++[.ref pb])) rp=_:=(aG nr).trans (s67 _ _ er)
   have et8:upd H7 tp (.lst (us++[.ref pb])) tp=some (.lst (us++[.ref pb])):=aB
   have DR8:=b8.denAll et7 _ _ (fQ pD (fun r=>xC r.1 r.2) rows) (s67.denAll _ _ DR)
   have DB8:aR K (upd H7 tp (.lst (us++[.ref pb]))) ((bs++[(c,mm)]).map sV) (us++[.ref pb]):=by
    rw [Qt]
    exact bV (b8.denAll et7 _ _ (fQ sV rQ bs) (s67.denAll _ _ DB)) (aK.mpr ⟨_,_,rfl,b8.den et7 _ _ (rQ _) db,aN.mpr rfl⟩)
   have hq8:=b8.seqT et7 (s7.seqT hq)
   generalize upd H7 tp (.lst (us++[.ref pb]))=H8 at s8 el8 er8 et8 DR8 DB8 hq8 ⊢
   -- left
   refine ⟨_,rfl,lp,rfl,⟨_,SqL.of el8⟩,gY (K:=K) (a:=lp) (xs:=hs.map V.int) (fun σ=>∃ v,σ = [v,some (.ref q)]) (fun j ys H9=>aE H8 H9/\ys=((hs.take j).filter fun h=>!inS c h).map V.int) (bR (by rw [Qa]; omega)) ⟨none,rfl⟩ ⟨aE.refl _,rfl⟩ ?_ (fun j ys H9 ⟨s9,_⟩=>s9.seqL (SqL.of el8)) ?_ ?_⟩
   ·rintro j ys H9 ⟨_,rfl⟩
    rw [Qa]
    exact Qv (Je _ _) (by rw [Jk]; exact Xw _ _)
   ·rintro j ys σ y H9 hy ⟨v,rfl⟩ ⟨s9,rfl⟩ hz
    rw [Qe] at hy
    obtain ⟨h,hh,rfl⟩:=Qz.mp hy
    refine ⟨_,rfl,_,rfl,q,c.map V.int,rfl,.inr (s9.seqT hq8),rfl,lP _,_,rfl,?_⟩
    have e:(!inV (.int h) (c.map V.int))=!inS c h:=rR h c
    show if (!inV (.int h) (c.map V.int))=true then _ else _
    rw [e,cF hh,Xu,Qt]
    cases hc:inS c h with
    | false =>
     refine jY ⟨_,rfl,hz,⟨_,rfl⟩,s9,?_⟩
     rw [Qx,hc]; rfl
    | true =>
     refine kY ⟨⟨_,rfl⟩,s9,?_⟩
     rw [Qx,hc]
     show _=_++[]
     rw [Xh]
   ·rintro ys H9 ⟨s9,rfl⟩ l2 hl2
    rw [Qa,Js]
    have s10:=s9.trans (aE.new (o:=.lst ((hs.filter fun h=>!inS c h).map V.int)) hl2)
    have nl2:l2≠tp:=fun z=>by rw [z,s9 _ _ et8] at hl2; cases hl2
    have el10:upd H9 l2 (.lst ((hs.filter fun h=>!inS c h).map V.int)) l2=_:=aB
    generalize upd H9 l2 (.lst ((hs.filter fun h=>!inS c h).map V.int))=H10 at s10 el10 ⊢
    -- rows: those not within
    have hzl:=aM DR
    rw [Qa] at hzl
    refine ⟨_,rfl,rp,rfl,⟨_,SqL.of (s10 _ _ er8)⟩,gY (K:=K) (a:=rp) (xs:=zs) (fun σ=>∃ v w,σ = [v,w,some (.ref q)]) (fun j ys H11=>aE H10 H11/\aR K H11 (((rows.take j).filter fun r=>!(r.1.all (inS c))).map pD) ys) (bR (by omega)) ⟨none,none,rfl⟩ ⟨aE.refl _,aN.mpr rfl⟩ ?_ (fun j ys H11 ⟨s11,_⟩=>s11.seqL (SqL.of (s10 _ _ er8))) ?_ ?_⟩
    ·rintro j ys H11 ⟨_,d11⟩
     rw [aM d11,Qa]
     exact Qv (Je _ _) (by rw [Jk]; exact Xw _ _)
    ·rintro j ys σ y H11 hy ⟨v,w,rfl⟩ ⟨s11,d11⟩ hz
     have s1011:=s10.trans s11
     obtain ⟨r,hr,hrd⟩:=cE (s1011.denAll _ _ DR8) hy
     obtain ⟨pp,pq,rfl,hpp,hpq⟩:=rM hrd
     obtain ⟨r6,_,_⟩:=RS r (Qh hr)
     refine ⟨pp,_,rfl,hpp,rfl,_,_,rfl,_,_,rfl,rfl,?_⟩
     refine ⟨_,rfl,_,rfl,pq,q,r.1,c,rfl,hpq,s1011.seqT hq8,by omega,fun H12 s12=>⟨_,rfl,?_⟩⟩
     rw [cF hr,Xu,Qt]
     show if (!(r.1.all (inS c)))=true then _ else _
     cases hw:r.1.all (inS c) with
     | false =>
      refine jY ⟨_,rfl,_,rfl,bR (show 2<=1000 by decide),fun pn hpn=>⟨hz,⟨_,_,rfl⟩,s11.trans (s12.trans (aE.new hpn)),?_⟩⟩
      refine bV ((s12.trans (aE.new hpn)).denAll _ _ d11) ?_
      rw [Qx,hw]
      exact aK.mpr ⟨_,_,rfl,nZ (SqT.of aB) ((s12.trans (aE.new hpn)).seqT hpq),aN.mpr rfl⟩
     | true =>
      refine kY ⟨⟨_,_,rfl⟩,s11.trans s12,?_⟩
      rw [Qx,hw]
      show aR K _ (_++[]) _
      rw [Xh]
      exact s12.denAll _ _ d11
    ·rintro ys H11 ⟨s11,d11⟩ rp1 hrp1
     rw [hzl,Js] at d11
     have s12:=s11.trans (aE.new (o:=.lst ys) hrp1)
     have er12:upd H11 rp1 (.lst ys) rp1=some (.lst ys):=aB
     have d12:=(aE.new (o:=.lst ys) hrp1).denAll _ _ d11
     generalize upd H11 rp1 (.lst ys)=H12 at s12 er12 d12 ⊢
     have hyl:=aM d12
     rw [Qa] at hyl
     have hyl2:ys.length<=12:=by rw [hyl]; exact Qv (Je _ _) RL
     generalize hR1:(rows.filter fun r=>!(r.1.all (inS c)))=rows1 at d12 hyl
     have RS1:∀ r∈rows1,r.1.length<=6:=fun r hr=>by rw [<- hR1] at hr; exact (RS r (Qy.mp hr).1).1
     refine ⟨_,rfl,rp1,rfl,⟨_,SqL.of er12⟩,gY (K:=K) (a:=rp1) (xs:=ys) (fun σ=>∃ v w,σ = [v,w,some (.ref q)]) (fun j zs H13=>aE H12 H13/\aR K H13 (((rows1.take j).map fun r=>(r.1.filter fun h=>!inS c h,r.2)).map pD) zs) (bR (by omega)) ⟨none,none,rfl⟩ ⟨aE.refl _,aN.mpr rfl⟩ ?_ (fun j zs H13 ⟨s13,_⟩=>s13.seqL (SqL.of er12)) ?_ ?_⟩
     ·rintro j zs H13 ⟨_,d13⟩
      rw [aM d13,Qa,Qa,Jk]
      exact Xw _ _
     ·rintro j zs σ y H13 hy ⟨v,w,rfl⟩ ⟨s13,d13⟩ hz
      obtain ⟨r,hr,hrd⟩:=cE (s13.denAll _ _ d12) hy
      obtain ⟨pp,pq,rfl,hpp,hpq⟩:=rM hrd
      have hr6:=RS1 r (Qh hr)
      have sq:=(s10.trans s12).trans s13
      refine ⟨pp,_,rfl,hpp,rfl,_,_,rfl,_,_,rfl,rfl,?_⟩
      refine ⟨_,rfl,pq,rfl,⟨_,hpq⟩,lB (K:=K) (a:=pq) (xs:=r.1.map V.int) (fun σ=>∃ v,σ = [v,some (.ref q)]) (fun i as H14=>aE H13 H14/\as=((r.1.take i).filter fun h=>!inS c h).map V.int) (bR (by rw [Qa]; omega)) ⟨none,rfl⟩ ⟨aE.refl _,rfl⟩ ?_ (fun i as H14 ⟨s14,_⟩=>s14.seqT hpq) ?_ ?_⟩
      ·rintro i as H14 ⟨_,rfl⟩
       rw [Qa]
       exact Qv (Je _ _) (by rw [Jk]; exact Xw _ _)
      ·rintro i as σ y H14 hy ⟨v,rfl⟩ ⟨s14,rfl⟩ hz2
       rw [Qe] at hy
       obtain ⟨h,hh,rfl⟩:=Qz.mp hy
       refine ⟨_,rfl,_,rfl,q,c.map V.int,rfl,.inr ((sq.trans s14).seqT hq8),rfl,lP _,_,rfl,?_⟩
       have e:(!inV (.int h) (c.map V.int))=!inS c h:=rR h c
       show if (!inV (.int h) (c.map V.int))=true then _ else _
       rw [e,cF hh,Xu,Qt]
       cases hc:inS c h with
       | false =>
        refine jY ⟨_,rfl,hz2,⟨_,rfl⟩,s14,?_⟩
        rw [Qx,hc]; rfl
       | true =>
        refine kY ⟨⟨_,rfl⟩,s14,?_⟩
        rw [Qx,hc]
        show _=_++[]
        rw [Xh]
      ·rintro as H14 ⟨s14,rfl⟩ pl hpl
       rw [Qa,Js]
       refine ⟨pl,_,rfl,.inl ⟨SqL.of aB,fun pt hpt=>?_⟩⟩
       refine ⟨_,rfl,bR (show 2<=1000 by decide),fun pn hpn=>⟨hz,⟨_,_,rfl⟩,?_,?_⟩⟩
       ·exact s13.trans (s14.trans ((aE.new hpl).trans ((aE.new hpt).trans (aE.new hpn))))
       ·rw [cF hr,Qt,Qt]
        refine bV ((s14.trans ((aE.new hpl).trans ((aE.new hpt).trans (aE.new hpn)))).denAll _ _ d13) ?_
        exact aK.mpr ⟨_,_,rfl,nZ (SqT.of aB) ((aE.new hpn).seqT (SqT.of aB)),aN.mpr rfl⟩
     ·rintro zs2 H13 ⟨s13,d13⟩ rp2 hrp2
      rw [hyl,Js] at d13
      have s14:=s13.trans (aE.new (o:=.lst zs2) hrp2)
      have nr2:rp2≠tp:=fun z=>by rw [z,((s10.trans s12).trans s13) _ _ et8] at hrp2; cases hrp2
      have sA:=s10.trans (s12.trans s14)
      have hlt:(hs.filter fun h=>!inS c h).length < hs.length:=by
       have e:hs.length=(hs.filter (inS c)).length+(hs.filter fun h=>!inS c h).length:=by
        have:=nW c2 (fun _=>true)
        unfold gB at this
        rw [Qad.mpr (fun a _=>by simp),Qad.mpr (fun a _=>rfl)] at this
        rw [<- c2]; omega
       rw [<- c2] at e
       omega
      have eR:rows1.map (fun r=>(r.1.filter fun h=>!inS c h,r.2))=redu rows c:=by rw [<- hR1]; rfl
      rw [eR] at d13
      refine ⟨_,hlt,l2,rp2,hs.filter fun h=>!inS c h,zs2,redu rows c,us++[.ref pb],bs++[(c,mm)],_,_,rfl,rfl,s8.trans sA,nl2,nr2,(s12.trans s14) _ _ el10,aB,sA _ _ et8,(aE.new hrp2).denAll _ _ d13,sA.denAll _ _ DB8,?_,hnd.filter _,RO.redu,RS.redu,Qv (xE _ _) RL,fun iP hrest=>?_⟩
      ·rw [Qr,Xd]; omega
      ·rw [Wg]
       exact hcont ((c,mm)::iP) ⟨HV,hrest⟩
end
end Ab
namespace L2
open PySem
theorem aE.wr {H H':Hp} {a:Addr} {u:HO} (e:aE H H') (h:H a=none):aE H (upd H' a u):=Ab.aCA e h
end L2
namespace Ab
open PySem L2
theorem hV:∀ (n:Nat) (l:List Int),l.Nodup->(∀ x∈l,0<=x/\x < (n:Int))->l.length<=n
 | 0,[],_,_=>Qk _
 | 0,x::_,_,h=>by have:=h x (.head _); omega
 | n+1,l,hn,h=>by
  by_cases hm:(n:Int)∈l
  ·have h1:=hV n (l.erase (n:Int)) (hn.erase _) fun x hx=>by
    have h2:=(hn.mem_erase_iff).mp hx
    have h3:=h x h2.2
    have:=h2.1
    omega
   rw [List.length_erase_of_mem hm] at h1
   omega
  ·have h1:=hV n l hn fun x hx=>by
    have h3:=h x hx
    have:x≠(n:Int):=fun z=>hm (z ▸ hx)
    omega
   omega
theorem iA {xs:List Int} {i:Nat} {v:V} (h:(xs.map V.int)[i]?=some v):∃ a,xs[i]?=some a/\v=.int a:=by
 rw [Qe] at h
 cases q:xs[i]? with
 | none=>rw [q] at h; cases h
 | some a=>rw [q] at h; exact ⟨a,rfl,(Option.some.inj h).symm⟩
theorem yX {n:Nat} {k:Int} (h0:0<=k) (h1:k < n):ixN n k=some k.toNat:=by
 unfold ixN
 rw [if_pos h0,if_pos (by omega)]
def oA (E:Nat->Int->Prop) (r:List (Key×V)):Prop:=(∀ k v,bK r k=some v->∃ (w:Nat) (t:Int),k=.inl t/\v=.int (w:Nat)/\E w t)/\∀ w t,E w t->(bK r (.inl t)).isSome=true
theorem oA.nil {E:Nat->Int->Prop} (h:∀ w t,¬ E w t):oA E []:=⟨fun k v e=>(by rw [aBZ] at e; cases e),fun w t e=>(h w t e).elim⟩
theorem oA.put {E:Nat->Int->Prop} {r:List (Key×V)} (h:oA E r) (w:Nat) (t:Int):oA (fun w' t'=>E w' t'∨(w'=w/\t'=t)) (dZ r (.inl t) (.int (w:Nat))):=by
 refine ⟨fun k v e=>?_,fun w' t' e=>?_⟩
 ·rw [iC] at e
  by_cases hk:k=Sum.inl t
  ·rw [if_pos hk] at e
   exact ⟨w,t,hk,(Option.some.inj e).symm,.inr ⟨rfl,rfl⟩⟩
  ·rw [if_neg hk] at e
   obtain ⟨w',t',h1,h2,h3⟩:=h.1 k v e
   exact ⟨w',t',h1,h2,.inl h3⟩
 ·rw [iC]
  by_cases hk:(Sum.inl t':Key)=Sum.inl t
  ·rw [if_pos hk]; rfl
  ·rw [if_neg hk]
   rcases e with e | ⟨_,e⟩
   ·exact h.2 w' t' e
   ·exact absurd (by rw [e]) hk
theorem oA.congr {E E':Nat->Int->Prop} {r:List (Key×V)} (h:oA E r) (e:∀ w t,E w t↔E' w t):oA E' r:=⟨fun k v q=>let ⟨w,t,a,b,c⟩:=h.1 k v q; ⟨w,t,a,b,(e w t).mp c⟩,fun w t q=>h.2 w t ((e w t).mpr q)⟩
structure Rows (H:Hp) (rp:Addr) (qs:List Addr) (rs:List (List (Key×V))):Prop where
 lst:H rp=some (.lst (qs.map V.ref))
 len:qs.length=rs.length
 nd:qs.Nodup
 row:∀ (g:Nat) q r,qs[g]?=some q->rs[g]?=some r->H q=some (.dK r)
theorem Rows.same {H H':Hp} {rp:Addr} {qs:List Addr} {rs:List (List (Key×V))} (h:Rows H rp qs rs) (s:aE H H'):Rows H' rp qs rs:=⟨s _ _ h.lst,h.len,h.nd,fun g q r a b=>s _ _ (h.row g q r a b)⟩
theorem Rows.put {H:Hp} {rp:Addr} {qs:List Addr} {rs:List (List (Key×V))} (h:Rows H rp qs rs) {g:Nat} {q:Addr} {r r':List (Key×V)} (hq:qs[g]?=some q) (hr:rs[g]?=some r):Rows (upd H q (.dK r')) rp qs (rs.set g r'):=by
 have hg:=h.row g q r hq hr
 have nq:rp≠q:=fun z=>by have:=h.lst; rw [z,hg] at this; cases this
 refine ⟨by rw [aG nq]; exact h.lst,by rw [Za]; exact h.len,h.nd,fun g2 q2 r2 h1 h2=>?_⟩
 rw [Xr] at h2
 by_cases e:g=g2
 ·subst e
  rw [if_pos rfl] at h2
  rw [hq] at h1
  cases h1
  by_cases hl:g < rs.length
  ·rw [if_pos hl] at h2; cases h2; exact aB
  ·rw [if_neg hl] at h2; cases h2
 ·rw [if_neg e] at h2
  have n2:q2≠q:=fun z=>by
   subst z
   have hlt:g < qs.length:=(Qd.mp hq).1
   exact e ((Yf hlt h.nd).mp (hq.trans h1.symm))
  rw [aG n2]
  exact h.row g2 q2 r2 h1 h2
theorem Rows.other {H:Hp} {rp a:Addr} {u:HO} {qs:List Addr} {rs:List (List (Key×V))} (h:Rows H rp qs rs) (hn:H a=none):Rows (upd H a u) rp qs rs:=h.same (aE.new hn)
def aEw (E:Int->Nat->Int->Prop) (rs:List (List (Key×V))) (m:Nat):Prop:=∀ (g:Nat) r,rs[g]?=some r->oA (E g) r/\r.length<=m
def Tp (H H':Hp):Prop:=∀ p xs,H p=some (.tup xs)->H' p=some (.tup xs)
theorem Tp.of {H H':Hp} (s:aE H H'):Tp H H':=fun _ _ h=>s _ _ h
theorem Tp.trans {H H1 H2:Hp} (a:Tp H H1) (b:Tp H1 H2):Tp H H2:=fun p xs h=>b p xs (a p xs h)
theorem Tp.upd {H:Hp} {a:Addr} {u:HO} (h:∀ xs,H a≠some (.tup xs)):Tp H (upd H a u):=fun p xs e=>by
 have ne:p≠a:=fun z=>h xs (by rw [<- z]; exact e)
 rw [aG ne]; exact e
theorem pK {fs:List (Key×V)} {os:List Int} (h:fs.map (·.1)=os.map Sum.inl) (t:Int):(bK fs (.inl t)).isSome=decide (t∈os):=by
 rw [<- dM]
 have:(fs.any fun kv=>decide (kv.1=Sum.inl t))=((fs.map (·.1)).any fun k=>decide (k=Sum.inl t)):=by rw [Ww]; rfl
 rw [this,h,Ww,Xm]
 simp
structure Tree (Ed:Int->Nat->Int->Prop) (n first:Int) (H:Hp) (fs:List (Key×V)) (os:List Int):Prop where
 keys:fs.map (·.1)=os.map Sum.inl
 nd:os.Nodup
 rng:∀ o∈os,0<=o/\o < n
 head:os[0]?=some first
 v0:bK fs (.inl first)=some .non
 par:∀ (j:Nat) (t:Int),0 < j->os[j]?=some t->∃ (p:Addr) (w:Nat) (g:Int) (i:Nat),bK fs (.inl t)=some (.ref p)/\H p=some (.tup [.int (w:Nat),.int g,.int t])/\Ed g w t/\i < j/\os[i]?=some g
section
variable {Ed:Int->Nat->Int->Prop} {n first:Int} {H H':Hp} {fs:List (Key×V)} {os:List Int}
theorem Tree.tp (T:Tree Ed n first H fs os) (e:Tp H H'):Tree Ed n first H' fs os :=
 ⟨T.keys,T.nd,T.rng,T.head,T.v0,fun j t h0 h1=>let ⟨p,w,g,i,a,b,c⟩:=T.par j t h0 h1; ⟨p,w,g,i,a,e _ _ b,c⟩⟩
theorem Tree.len (T:Tree Ed n first H fs os):os.length<=n.toNat:=hV _ _ T.nd fun x hx=>by have:=T.rng x hx; omega
theorem Tree.flen (T:Tree Ed n first H fs os):fs.length=os.length:=by
 have:=congrArg Yp T.keys
 rwa [Qa,Qa] at this
theorem Tree.one (h0:0<=first) (h1:first < n):Tree Ed n first H [(.inl first,.non)] [first] :=
 ⟨rfl,by simp,fun o ho=>by rw [Qo.mp ho]; exact ⟨h0,h1⟩,rfl,eA rfl,fun j t h2 h3=>by
  cases j with
  | zero=>omega
  | succ j=>simp at h3⟩
theorem Tree.grow (T:Tree Ed n first H fs os) {p:Addr} {w:Nat} {g t:Int} {i:Nat} (hp:H p=some (.tup [.int (w:Nat),.int g,.int t])) (e:Ed g w t) (hi:os[i]?=some g) (ht:t∉os) (r0:0<=t) (r1:t < n) :
  Tree Ed n first H (fs++[(.inl t,.ref p)]) (os++[t]):=by
 have hv:bK fs (.inl t)=none:=by
  have:=pK T.keys t
  rw [decide_eq_false ht] at this
  cases q:bK fs (.inl t) with
  | none=>rfl
  | some v=>rw [q] at this; cases this
 have hlt:i < os.length:=(Qd.mp hi).1
 have val:∀ j:Key,bK (fs++[(.inl t,.ref p)]) j=if j=.inl t then some (.ref p) else bK fs j:=fun j=>nR _ _ _ _ hv
 have hf:first∈os:=Qh T.head
 refine ⟨by rw [Qt,Qt,T.keys]; rfl,?_,fun o ho=>?_,?_,?_,fun j t' h0 h1=>?_⟩
 ·rw [Zs]
  exact ⟨T.nd,by simp,fun x hx y hy z=>ht (by rw [<- Qo.mp hy,<- z]; exact hx)⟩
 ·rcases Jm.mp ho with h | h
  ·exact T.rng o h
  ·rw [Qo.mp h]; exact ⟨r0,r1⟩
 ·rw [Jc (by omega)]; exact T.head
 · rw [val, if_neg (fun z => ht (by have : first = t := by simpa using z
                                    rw [<- this]; exact hf))]
   exact T.v0
 ·by_cases hj:j < os.length
  ·rw [Jc hj] at h1
   obtain ⟨p',w',g',i',a,b,c,d,e'⟩:=T.par j t' h0 h1
   have ne : (Sum.inl t' : Key) ≠ Sum.inl t := fun z => ht (by have : t' = t := by simpa using z
                                                               rw [<- this]; exact Qh h1)
   exact ⟨p',w',g',i',by rw [val,if_neg ne]; exact a,b,c,d,by rw [Jc (by omega)]; exact e'⟩
  ·have ej:j=os.length:=by
    have:=(Qd.mp h1).1
    rw [Qr] at this
    simp at this
    omega
   subst ej
   rw [Jh (Qk _),Nat.sub_self] at h1
   have et:t'=t:=by simpa using h1.symm
   subst et
   exact ⟨p,w,g,i,by rw [val,if_pos rfl],hp,e,hlt,by rw [Jc hlt]; exact hi⟩
end
section
variable {P:Program} {w:World} {K:PySem.W.Frag} {mg:Str->Option Value} {base:Heap}
def aDY (Ed:Int->Nat->Int->Prop) (os:List Int):Prop:=∀ g∈os,∀ w t,Ed g w t->t∈os
def oC (K:PySem.W.Frag):Sp:=fun vs H Q _=>∃ rp first qs rs n Ed,vs = [.ref rp,.int first]/\Rows H rp qs rs/\rs.length=n.toNat/\aEw Ed rs 1000/\(∀ g w t,Ed g w t->0<=t/\t < n)/\n<=100/\0<=first/\first < n /\
 ∀ fd H' fs os,aE H H'->H fd=none->H' fd=some (.dK fs)->Tree Ed n first H' fs os->aDY Ed os->Q (.ref fd) H'
theorem kE:FnScope ["rows", "first", "found", "waiting", "giver", "taker"] ["rows", "first"] (aH mV):=⟨rfl,rfl,rfl,by decide +kernel,rfl,by decide +kernel,by decide +kernel⟩
theorem yY {f:Addr} {fd:FuncData} (G:Fn K mg "reached" mV ["rows", "first"] f fd) (B:Bl mg):FnOk P w K mg base CX0 1 f fd ["rows", "first"] (oC K):=by
 refine G.fn.ok kE (fun vs H Q E h=>?_) (fun cdv A outer s H vs Q E hr h=>?_)
 ·obtain ⟨rp,first,qs,rs,n,Ed,rfl,_⟩:=h
  rfl
 ·obtain ⟨rp,first,qs,rs,n,Ed,rfl,R,hlr,ER,hedge,hn6,hf0,hf1,k⟩:=h
  refine ⟨_,(aF (aT (i:=2) kE.nd rfl (Or.inl rfl) (wK (pv 1) aEH))
   (aF (aT (i:=3) kE.nd rfl (Or.inl rfl) (eO (aA (pv 1) aC)))
   (aF (jX PassesOwn.never (vO (pv 3) (fun _=>rfl))
    (aF (aT (i:=4) kE.nd rfl (Or.inl rfl) (pS PySem.F.plainAttrs_list PySem.F.slot_list_pop PySem.F.type_list_pop aBD (pv 3) (aA aI aC)))
    (aJ (uH (eJ PassesOwn.never rfl (oZ (aV dG (pv 0) (pv 4) (fun _ _=>rfl))) (aL (i:=5) kE.nd rfl (Or.inl rfl))
     (aJ (fF (aBt (aAR (jL hr) (pv 5) (pv 2)) (by with_unfolding_all rfl))
      (aF (oY (jL hr) (pv 2) (pv 5) (cU (aA (jN (jL hr) (aV dG (pv 0) (pv 4) (fun _ _=>rfl)) (pv 5) (fun _ _=>rfl)) (aA (pv 4) (aA (pv 5) aC)))) rfl)
      (aJ (lI (pS PySem.F.plainAttrs_list PySem.F.slot_list_append PySem.F.type_list_append lL (pv 3) (aA (pv 5) aC)))))
      bX)))))))
   (aJ (aY (pv 2)))))),?_⟩
  intro fd0 hfd0
  refine ⟨_,rfl,.inl first,rfl,aB,?_⟩
  rw [zI]
  have s1:=aE.new (o:=.dK [(.inl first,.non)]) hfd0
  have e1:upd H fd0 (.dK [(.inl first,.non)]) fd0=some (.dK [(.inl first,.non)]):=aB
  generalize upd H fd0 (.dK [(.inl first,.non)])=H1 at s1 e1 ⊢
  refine ⟨_,rfl,sz1 _,fun wt hwt=>?_⟩
  have hwt0:H wt=none:=s1.free hwt
  have nfw:fd0≠wt:=fun z=>by rw [z,hwt] at e1; cases e1
  have s2:=s1.trans (aE.new (o:=.lst [.int first]) hwt)
  have e2:=(aE.new (o:=.lst [.int first]) hwt) _ _ e1
  have w2:upd H1 wt (.lst [.int first]) wt=some (.lst [.int first]):=aB
  generalize upd H1 wt (.lst [.int first])=H2 at s2 e2 w2 ⊢
  -- the while
  refine ⟨fun m σ H3=>∃ (v4 v5:Option V) (mm:Nat) (fs:List (Key×V)) (os:List Int),σ = [some (.ref rp),some (.int first),some (.ref fd0),some (.ref wt),v4,v5]/\m=n.toNat - mm/\aE H H3/\H3 fd0=some (.dK fs)/\H3 wt=some (.lst ((os.drop mm).map V.int))/\Tree Ed n first H3 fs os/\mm<=os.length /\
    ∀ (i:Nat) (g:Int),i < mm->os[i]?=some g->∀ w t,Ed g w t->t∈os,
   ⟨n.toNat - 0,none,none,0,_,[first],rfl,rfl,s2,e2,w2,Tree.one hf0 hf1,Jj _,fun i g hi=>absurd hi (Nat.not_lt_zero _)⟩,?_⟩
  rintro m σ H3 ⟨v4,v5,mm,fs,os,rfl,rfl,s3,e3,w3,T3,hmm,pr3⟩
  refine ⟨_,rfl,!((os.drop mm).map V.int).isEmpty,.inl ⟨_,SqL.of w3,rfl⟩,?_⟩
  by_cases hend:mm < os.length
  ·-- a turn
   have hne:(os.drop mm)≠[]:=by
    intro z
    have:=congrArg Yp z
    rw [Ym] at this
    simp at this
    omega
   have hb:(!((os.drop mm).map V.int).isEmpty)=true:=by
    cases q:os.drop mm with
    | nil=>exact absurd q hne
    | cons _ _=>rfl
   rw [hb]
   refine jY ?_
   have hdrop:os.drop mm=os[mm]::os.drop (mm+1):=Yy hend
   have hgm:os[mm]?=some (os[mm]):=Qb hend
   generalize os[mm]=g at hdrop hgm
   obtain ⟨hg0,hg1⟩:=T3.rng g (Qh hgm)
   have holen:=T3.len
   refine ⟨fun σ' H'=>∃ m',m' < n.toNat - mm/\∃ (v4 v5:Option V) (mm:Nat) (fs:List (Key×V)) (os:List Int),σ' = [some (.ref rp),some (.int first),some (.ref fd0),some (.ref wt),v4,v5]/\m'=n.toNat - mm/\aE H H'/\H' fd0=some (.dK fs)/\H' wt=some (.lst ((os.drop mm).map V.int))/\Tree Ed n first H' fs os/\mm<=os.length /\
    ∀ (i:Nat) (g:Int),i < mm->os[i]?=some g->∀ w t,Ed g w t->t∈os,fun σ' H' z=>z,?_⟩
   refine ⟨_,rfl,.inl ⟨rfl,_,SqL.of w3⟩,?_⟩
   have hx0:((os.drop mm).map V.int)[0]?=some (.int g):=by rw [hdrop]; rfl
   have hxl:0 < ((os.drop mm).map V.int).length:=(Qd.mp hx0).1
   refine ⟨wt,_,0,0,.int g,rfl,rfl,w3,by decide,by decide,mT (i:=0) (by decide) hxl,hx0,?_⟩
   have her:((os.drop mm).map V.int).eraseIdx 0=(os.drop (mm+1)).map V.int:=by rw [hdrop]; rfl
   rw [her]
   have s4:=s3.wr (u:=.lst ((os.drop (mm+1)).map V.int)) hwt0
   have e4:upd H3 wt (.lst ((os.drop (mm+1)).map V.int)) fd0=some (.dK fs):=by rw [aG nfw]; exact e3
   have w4:upd H3 wt (.lst ((os.drop (mm+1)).map V.int)) wt=some (.lst ((os.drop (mm+1)).map V.int)):=aB
   have T4:=T3.tp (Tp.upd (a:=wt) (u:=.lst ((os.drop (mm+1)).map V.int)) fun xs z=>by rw [w3] at z; cases z)
   generalize upd H3 wt (.lst ((os.drop (mm+1)).map V.int))=H4 at s4 e4 w4 T4 ⊢
   -- the row
   have R4:=R.same s4
   have hgl:g.toNat < qs.length:=by rw [R.len,hlr]; omega
   have hcast:((g.toNat:Nat):Int)=g:=by omega
   obtain ⟨qg,hqg⟩:∃ q,qs[g.toNat]?=some q:=⟨_,Qb hgl⟩
   obtain ⟨r,hr⟩:∃ r,rs[g.toNat]?=some r:=⟨_,Qb (by rw [hlr]; omega)⟩
   have hat:atI (qs.map V.ref) g=some (.ref qg):=by
    have:=cL (xs:=qs.map V.ref) (j:=g.toNat) (v:=.ref qg) (by rw [Qe,hqg]; rfl)
    rwa [hcast] at this
   have hrow:=R.row _ _ _ hqg hr
   have hrow4:=s4 _ _ hrow
   obtain ⟨hRE,hRl⟩:=ER _ _ hr
   rw [hcast] at hRE
   have nqf:qg≠fd0:=fun z=>by rw [z,hfd0] at hrow; cases hrow
   have nqw:qg≠wt:=fun z=>by rw [z,hwt0] at hrow; cases hrow
   have nqr:rp≠qg:=fun z=>by have:=R.lst; rw [z,hrow] at this; cases this
   refine ⟨_,rfl,_,rfl,rp,_,g,_,rfl,rfl,SqL.of R4.lst,hat,qg,r,rfl,hrow4,fun o nf=>?_⟩
   have z5:upd H4 qg (.frz o (.dK r)) qg=some (.frz o (.dK r)):=aB
   have b5:But qg H (upd H4 qg (.frz o (.dK r))):=fun b u nb hb=>by rw [aG nb]; exact s4 _ _ hb
   have e5:upd H4 qg (.frz o (.dK r)) fd0=some (.dK fs):=by rw [aG (Ne.symm nqf)]; exact e4
   have w5:upd H4 qg (.frz o (.dK r)) wt=some (.lst ((os.drop (mm+1)).map V.int)):=by rw [aG (Ne.symm nqw)]; exact w4
   have T5:=T4.tp (Tp.upd (a:=qg) (u:=.frz o (.dK r)) fun xs z=>by rw [hrow4] at z; cases z)
   generalize upd H4 qg (.frz o (.dK r))=H5 at z5 b5 e5 w5 T5 ⊢
   refine qE (a:=qg) (o:=o) (kvs:=r) (fun j σ H6=>∃ (v5:Option V) (fs:List (Key×V)) (os:List Int),σ = [some (.ref rp),some (.int first),some (.ref fd0),some (.ref wt),some (.int g),v5]/\H6 qg=some (.frz o (.dK r))/\But qg H H6/\H6 fd0=some (.dK fs)/\H6 wt=some (.lst ((os.drop (mm+1)).map V.int))/\Tree Ed n first H6 fs os/\mm+1<=os.length/\os[mm]?=some g /\
     (∀ (i:Nat) (g:Int),i < mm->os[i]?=some g->∀ w t,Ed g w t->t∈os)/\∀ (i:Nat) k v t,i < j->r[i]?=some (k,v)->k=.inl t->t∈os)
    ⟨v5,fs,os,rfl,z5,b5,e5,w5,T5,hend,hgm,pr3,fun i k v t hi=>absurd hi (Nat.not_lt_zero _)⟩ (fun j σ H6 _ ⟨_,_,_,_,h,_⟩=>h) ?_ ?_
   ·rintro j ⟨key,val⟩ σ H6 hj ⟨v5,fs,os,rfl,z6,b6,e6,w6,T6,hl6,hg6,pr6,dn6⟩
    -- the key is a hand,its value a work
    obtain ⟨val',hval⟩:∃ v,bK r key=some v:=by
     have:(bK r key).isSome=true:=by
      rw [<- dM,Jz]
      exact ⟨_,Qh hj,by simp⟩
     cases q:bK r key with
     | none=>rw [q] at this; cases this
     | some v=>exact ⟨v,rfl⟩
    obtain ⟨wk,t,rfl,rfl,hE⟩:=hRE.1 _ _ hval
    obtain ⟨ht0,ht1⟩:=hedge _ _ _ hE
    dsimp only [kV]
    have dn:∀ (os':List Int),t∈os'->(∀ x∈os,x∈os')->∀ (i:Nat) k v t',i < j+1->r[i]?=some (k,v)->k=.inl t'->t'∈os':=fun os' h1 h2 i k v t' hi hk he=>by
     by_cases hij:i < j
     ·exact h2 _ (dn6 i k v t' hij hk he)
     ·have:i=j:=by omega
      subst this
      rw [hj] at hk
      cases hk
      have:t=t':=by simpa using he
      rw [<- this]; exact h1
    refine ⟨_,rfl,_,rfl,fd0,_,rfl,qD.k (k:=.inl t) e6,_,rfl,?_⟩
    rw [pK T6.keys]
    by_cases htm:t∈os
    ·rw [decide_eq_true htm]
     refine kY ?_
     exact ⟨_,fs,os,rfl,z6,b6,e6,w6,T6,hl6,hg6,pr6,dn os htm fun _ h=>h⟩
    ·rw [decide_eq_false htm]
     refine jY ?_
     have hR6:H6 rp=some (.lst (qs.map V.ref)):=b6 _ _ nqr R.lst
     refine ⟨_,rfl,_,rfl,rp,_,g,_,rfl,rfl,SqL.of hR6,hat,_,rfl,qg,.int (wk:Nat),rfl,.inl ⟨r,.inl t,.inr ⟨o,z6⟩,rfl,hval.symm⟩,_,rfl,_,rfl,bR (show 3<=1000 by decide),fun p hp=>?_⟩
     have sp:=aE.new (o:=.tup [.int (wk:Nat),.int g,.int t]) hp
     have ep:upd H6 p (.tup [.int (wk:Nat),.int g,.int t]) p=_:=aB
     have b7:But qg H (upd H6 p (.tup [.int (wk:Nat),.int g,.int t])):=b6.trans (But.of sp)
     have z7:=sp _ _ z6
     have e7:=sp _ _ e6
     have w7:=sp _ _ w6
     have T7:=T6.tp (Tp.of sp)
     generalize upd H6 p (.tup [.int (wk:Nat),.int g,.int t])=H7 at sp ep b7 z7 e7 w7 T7 ⊢
     have hv:bK fs (.inl t)=none:=by
      have:=pK T7.keys t
      rw [decide_eq_false htm] at this
      cases q:bK fs (.inl t) with
      | none=>rfl
      | some v=>rw [q] at this; cases this
     have T7l:=T7.len
     have T7f:=T7.flen
     have T8:=T7.grow ep hE hg6 htm ht0 ht1
     have hput:dZ fs (.inl t) (.ref p)=fs++[(.inl t,.ref p)]:=qB _ hv
     refine ⟨_,rfl,_,rfl,fd0,_,rfl,oU.k (k:=.inl t) e7 (by rw [sizeLine_eq]; omega),?_⟩
     rw [hput]
     have b8:But qg H (upd H7 fd0 (.dK (fs++[(.inl t,.ref p)]))):=fun b u nb hb=>by
      rw [aG (fun z=>by rw [z,hfd0] at hb; cases hb)]
      exact b7 b u nb hb
     have z8:upd H7 fd0 (.dK (fs++[(.inl t,.ref p)])) qg=some (.frz o (.dK r)):=by rw [aG nqf]; exact z7
     have e8:upd H7 fd0 (.dK (fs++[(.inl t,.ref p)])) fd0=_:=aB
     have w8:upd H7 fd0 (.dK (fs++[(.inl t,.ref p)])) wt=some (.lst ((os.drop (mm+1)).map V.int)):=by rw [aG (Ne.symm nfw)]; exact w7
     have T8':=T8.tp (Tp.upd (a:=fd0) (u:=.dK (fs++[(.inl t,.ref p)])) fun xs z=>by rw [e7] at z; cases z)
     generalize upd H7 fd0 (.dK (fs++[(.inl t,.ref p)]))=H8 at b8 z8 e8 w8 T8' ⊢
     refine ⟨_,rfl,.inl ⟨rfl,_,SqL.of w8⟩,_,rfl,wt,_,.int t,rfl,rfl,w8,by rw [Qa,Ym,sizeLine_eq]; omega,?_⟩
     have hdr:(os.drop (mm+1)).map V.int++[V.int t]=((os++[t]).drop (mm+1)).map V.int:=by
      rw [List.drop_append_of_le_length hl6,Qt]; rfl
     rw [hdr]
     refine ⟨_,_,os++[t],rfl,by rw [aG nqw]; exact z8,fun b u nb hb=>?_,by rw [aG nfw]; exact e8,aB,T8'.tp (Tp.upd fun xs z=>by rw [w8] at z; cases z),by rw [Qr]; omega,by rw [Jc (by omega)]; exact hg6,fun i g' hi hg' w t' e'=>?_,dn _ (by simp) fun x hx=>Jf _ hx⟩
     ·rw [aG (fun z=>by rw [z,hwt0] at hb; cases hb)]
      exact b8 b u nb hb
     ·rw [Jc (by omega)] at hg'
      exact Jf _ (pr6 i g' hi hg' w t' e')
   ·rintro σ H6 ⟨v5,fs,os,rfl,z6,b6,e6,w6,T6,hl6,hg6,pr6,dn6⟩
    refine ⟨qg,o,r,z6,nf,?_⟩
    have hole:=T6.len
    have s7:aE H (upd H6 qg (.dK r)):=fun b u hb=>by
     by_cases hbq:b=qg
     ·rw [hbq] at hb ⊢
      rw [aB,<- hrow]; exact hb
     ·rw [aG hbq]; exact b6 b u hbq hb
    refine ⟨n.toNat - (mm+1),by omega,_,_,mm+1,fs,os,rfl,rfl,s7,by rw [aG (Ne.symm nqf)]; exact e6,by rw [aG (Ne.symm nqw)]; exact w6,T6.tp (Tp.upd fun xs z=>by rw [z6] at z; cases z),hl6,fun i g' hi hg' w t e=>?_⟩
    by_cases him:i < mm
    ·exact pr6 i g' him hg' w t e
    ·have:i=mm:=by omega
     subst this
     rw [hg6] at hg'
     cases hg'
     have hs:=hRE.2 w t e
     rw [<- dM,Jz] at hs
     obtain ⟨⟨k,v⟩,hk,he⟩:=hs
     obtain ⟨j,hj⟩:=Jx.mp hk
     exact dn6 j k v t (Qd.mp hj).1 hj (by simpa using he)
  ·have hlen:mm=os.length:=by omega
   have hb:(!((os.drop mm).map V.int).isEmpty)=false:=by rw [hlen,List.drop_length]; rfl
   rw [hb]
   refine kY ?_
   refine ⟨_,rfl,k fd0 H3 fs os s3 hfd0 e3 T3 fun g hg w t e=>?_⟩
   obtain ⟨i,hi⟩:=Jx.mp hg
   exact pr3 i g (by have:=(Qd.mp hi).1; omega) hi w t e
structure StepsAt (H:Hp) (ps:List Addr) (ss:List (Nat×Int×Int)):Prop where
 len:ps.length=ss.length
 at_:∀ (i:Nat) p s,ps[i]?=some p->ss[i]?=some s->H p=some (.tup [.int (s.1:Nat),.int s.2.1,.int s.2.2])
theorem StepsAt.nil {H:Hp}:StepsAt H [] []:=⟨rfl,fun i p s h=>by simp at h⟩
theorem StepsAt.cons {H:Hp} {ps:List Addr} {ss:List (Nat×Int×Int)} (h:StepsAt H ps ss) {p:Addr} {w:Nat} {g t:Int} (hp:H p=some (.tup [.int (w:Nat),.int g,.int t])):StepsAt H (p::ps) ((w,g,t)::ss):=by
 refine ⟨by rw [Jl,Jl,h.len],fun i p' s h1 h2=>?_⟩
 cases i with
 | zero =>
  have e1:p=p':=by simpa using h1
  have e2:(w,g,t)=s:=by simpa using h2
  subst e1 e2
  exact hp
 | succ i=>exact h.at_ i p' s (by simpa using h1) (by simpa using h2)
theorem StepsAt.tp {H H':Hp} {ps:List Addr} {ss:List (Nat×Int×Int)} (h:StepsAt H ps ss) (e:Tp H H'):StepsAt H' ps ss:=⟨h.len,fun i p s a b=>e _ _ (h.at_ i p s a b)⟩
def uZ (K:PySem.W.Frag):Sp:=fun vs H Q _=>∃ fdp last fs os first n Ed jl,vs = [.ref fdp,.int last]/\H fdp=some (.dK fs)/\Tree Ed n first H fs os/\n<=100/\os[jl]?=some last /\
 ∀ p H' ps ss,aE H H'->H p=none->H' p=some (.lst (ps.map V.ref))->StepsAt H' ps ss->rD Ed first ss last->(vtx first ss).Nodup->(∀ s∈ss,s.2.2∈os)->(0 < jl->ss≠[])->Q (.ref p) H'
theorem pL:FnScope ["found", "last", "some", "step"] ["found", "last"] (aH uO):=⟨rfl,rfl,rfl,by decide +kernel,rfl,by decide +kernel,by decide +kernel⟩
theorem aCH {f:Addr} {fd:FuncData} (G:Fn K mg "way_to" uO ["found", "last"] f fd) (B:Bl mg):FnOk P w K mg base CX0 1 f fd ["found", "last"] (uZ K):=by
 refine G.fn.ok pL (fun vs H Q E h=>?_) (fun cdv A outer s H vs Q E hr h=>?_)
 ·obtain ⟨fdp,last,fs,os,first,n,Ed,jl,rfl,_⟩:=h
  rfl
 ·obtain ⟨fdp,last,fs,os,first,n,Ed,jl,rfl,hfd,T,hn6,hjl,k⟩:=h
  refine ⟨_,(aF (aT (i:=2) pL.nd rfl (Or.inl rfl) (eO aC))
   (aF (aT (i:=3) pL.nd rfl (Or.inl rfl) (jN (jL hr) (pv 0) (pv 1) (fun _ _=>rfl)))
   (aF (jX PassesOwn.never (aBt (aC4 (pv 3)))
    (aF (lI (pS PySem.F.plainAttrs_list PySem.F.slot_list_append PySem.F.type_list_append lL (pv 2) (aA (pv 3) aC)))
    (aJ (aT (i:=3) pL.nd rfl (Or.inl rfl) (jN (jL hr) (pv 0) (aV bB (pv 3) aI (fun _ _=>rfl)) (fun _ _=>rfl))))))
   (aJ (aY (aDp (pv 2) (aBw xW aI))))))),?_⟩
  have Tl:=T.len
  have hnsz:n.toNat < sizeLine:=by rw [sizeLine_eq]; omega
  refine ⟨bR (show 0<=1000 by decide),fun sm hsm=>?_⟩
  have s1:=aE.new (o:=.lst []) hsm
  have e1:upd H sm (.lst []) sm=some (.lst []):=aB
  generalize upd H sm (.lst [])=H1 at s1 e1 ⊢
  -- what stands at a found hand
  have vals:∀ (j:Nat) (t:Int),os[j]?=some t->∃ v,bK fs (.inl t)=some v/\((j=0/\v=.non)∨∃ p w g i,0 < j/\v=.ref p/\H p=some (.tup [.int (w:Nat),.int g,.int t])/\Ed g w t/\i < j/\os[i]?=some g):=fun j t ht=>by
   by_cases hj:j=0
   ·subst hj
    rw [T.head] at ht
    cases ht
    exact ⟨_,T.v0,.inl ⟨rfl,rfl⟩⟩
   ·obtain ⟨p,w,g,i,a,b,c,d,e⟩:=T.par j t (by omega) ht
    exact ⟨_,a,.inr ⟨p,w,g,i,by omega,rfl,b,c,d,e⟩⟩
  obtain ⟨v0,hv0,_⟩:=vals jl last hjl
  refine ⟨_,rfl,_,rfl,fdp,v0,rfl,.inl ⟨fs,.inl last,.inl (s1 _ _ hfd),rfl,hv0.symm⟩,?_⟩
  refine ⟨fun m σ H2=>∃ (j:Nat) (t:Int) (v:V) (rps:List Addr) (ss:List (Nat×Int×Int)),m=j/\σ = [some (.ref fdp),some (.int last),some (.ref sm),some v]/\os[j]?=some t/\bK fs (.inl t)=some v/\aE H H2/\H2 sm=some (.lst (rps.map V.ref))/\StepsAt H2 rps.reverse ss/\rD Ed t ss last/\(t::ss.map (·.2.2)).Nodup /\
    (∀ x∈ss.map (·.2.2),∃ i:Nat,j < i/\os[i]?=some x)/\rps.length+j<=jl/\(j < jl->ss≠[]),
   ⟨jl,jl,last,v0,[],[],rfl,rfl,hjl,hv0,s1,e1,StepsAt.nil,rfl,by simp,fun x h=>by simp at h,by simp,fun h=>by omega⟩,?_⟩
  rintro j σ H2 ⟨_,t,v,rps,ss,rfl,rfl,hj,hv,s2,e2,S2,P2,N2,I2,L2',L3⟩
  have hjo:jl < os.length:=(Qd.mp hjl).1
  obtain ⟨v',hv',cs⟩:=vals j t hj
  rw [hv] at hv'
  cases hv'
  rcases cs with ⟨rfl,rfl⟩ | ⟨p,w,g,i,hj0,rfl,hp,hE,hij,hg⟩
  ·refine ⟨_,rfl,_,rfl,?_⟩
   refine kY ?_
   rw [T.head] at hj
   cases hj
   refine ⟨_,rfl,_,rfl,rfl,sm,_,rfl,SqL.of e2,fun p hp=>?_⟩
   have s3:=aE.new (o:=.lst (rps.map V.ref).reverse) hp
   refine k p _ rps.reverse ss (s2.trans s3) (s2.free hp) (by rw [aB,List.map_reverse]) (S2.tp (Tp.of s3)) P2 N2 (fun x hx=>?_) L3
   obtain ⟨i,_,hi⟩:=I2 _ (Jd.mpr ⟨x,hx,rfl⟩)
   exact Qh hi
  ·refine ⟨_,rfl,_,rfl,?_⟩
   refine jY ?_
   obtain ⟨vg,hvg,_⟩:=vals i g hg
   refine ⟨fun σ' H'=>∃ m',m' < j/\∃ (j:Nat) (t:Int) (v:V) (rps:List Addr) (ss:List (Nat×Int×Int)),m'=j/\σ' = [some (.ref fdp),some (.int last),some (.ref sm),some v]/\os[j]?=some t/\bK fs (.inl t)=some v/\aE H H'/\H' sm=some (.lst (rps.map V.ref))/\StepsAt H' rps.reverse ss/\rD Ed t ss last/\(t::ss.map (·.2.2)).Nodup /\
    (∀ x∈ss.map (·.2.2),∃ i:Nat,j < i/\os[i]?=some x)/\rps.length+j<=jl/\(j < jl->ss≠[]),fun σ' H' z=>z,?_⟩
   have hsz:(rps.map V.ref).length < sizeLine:=by
    rw [Qa]
    exact Jy (Qv (Qv (Nat.le_add_right _ _) L2') (Qv (Zo hjo) Tl)) hnsz
   refine ⟨_,rfl,.inl ⟨rfl,_,SqL.of e2⟩,_,rfl,sm,_,.ref p,rfl,rfl,e2,hsz,?_⟩
   have s3:aE H (upd H2 sm (.lst (rps.map V.ref++[.ref p]))):=s2.wr hsm
   have e3:upd H2 sm (.lst (rps.map V.ref++[.ref p])) sm=_:=aB
   have S3:=S2.tp (Tp.upd (a:=sm) (u:=.lst (rps.map V.ref++[.ref p])) fun xs z=>by rw [e2] at z; cases z)
   generalize upd H2 sm (.lst (rps.map V.ref++[.ref p]))=H3 at s3 e3 S3 ⊢
   have hp3:=s3 _ _ hp
   refine ⟨_,rfl,_,rfl,p,_,1,.int g,rfl,rfl,SqT.of hp3,rfl,fdp,vg,rfl,.inl ⟨fs,.inl g,.inl (s3 _ _ hfd),rfl,hvg.symm⟩,?_⟩
   refine ⟨i,hij,i,g,vg,rps++[p],(w,g,t)::ss,rfl,rfl,hg,hvg,s3,by rw [Qt]; exact e3,?_,⟨rfl,hE,P2⟩,?_,?_,?_,fun _=>by simp⟩
   ·rw [List.reverse_append]
    exact S3.cons hp3
   ·show (g::t::ss.map (·.2.2)).Nodup
    rw [Xa]
    refine ⟨fun hm=>?_,N2⟩
    have inj:∀ i',i < i'->os[i']?=some g->False:=fun i' h1 h2=>by
     have:=(Yf (Qd.mp hg).1 T.nd).mp (hg.trans h2.symm)
     omega
    rcases Qp.mp hm with e | hm
    ·exact inj j hij (by rw [e]; exact hj)
    ·obtain ⟨i',h1,h2⟩:=I2 g hm
     exact inj i' (by omega) h2
   ·intro x hx
    rcases Qp.mp (show x∈t::ss.map (·.2.2) from hx) with rfl | hx
    ·exact ⟨j,hij,hj⟩
    ·obtain ⟨i',h1,h2⟩:=I2 x hx
     exact ⟨i',by omega,h2⟩
   ·rw [Qr]
    show rps.length+1+i<=jl
    omega
def nF (r:List (Key×V)) (n:Int):Prop:=∃ os:List Int,r.map (·.1)=os.map Sum.inl/\os.Nodup/\∀ o∈os,0<=o/\o < n
theorem nF.nil {n:Int}:nF [] n:=⟨[],rfl,Yz,fun _ h=>(Ja h).elim⟩
theorem nF.len {r:List (Key×V)} {n:Int} (h:nF r n):r.length<=n.toNat:=by
 obtain ⟨os,e,nd,rg⟩:=h
 have:=congrArg Yp e
 rw [Qa,Qa] at this
 rw [this]
 exact hV _ _ nd fun x hx=>by have:=rg x hx; omega
theorem nF.key {r:List (Key×V)} {n:Int} (h:nF r n) {k:Key} (hk:(bK r k).isSome=true):∃ t,k=.inl t/\0<=t/\t < n:=by
 obtain ⟨os,e,nd,rg⟩:=h
 rw [<- dM,Jz] at hk
 obtain ⟨kv,h1,h2⟩:=hk
 have h3:kv.1∈r.map (·.1):=Jd.mpr ⟨kv,h1,rfl⟩
 rw [e] at h3
 obtain ⟨o,ho,he⟩:=Jd.mp h3
 exact ⟨o,by rw [<- of_decide_eq_true h2,<- he],rg o ho⟩
theorem nF.put {r:List (Key×V)} {n:Int} (h:nF r n) {t:Int} (v:V) (h0:0<=t) (h1:t < n):nF (dZ r (.inl t) v) n:=by
 obtain ⟨os,e,nd,rg⟩:=h
 have mv:=pK e t
 by_cases c:t∈os
 ·refine ⟨os,?_,nd,rg⟩
  have:(dZ r (.inl t) v).map (·.1)=r.map (·.1):=by
   unfold dZ
   rw [dM,mv,decide_eq_true c,if_pos rfl,Xy]
   refine Yr fun kv _=>?_
   show (if kv.1=Sum.inl t then _ else _:Key×V).1=kv.1
   split
   ·rfl
   ·rfl
  rw [this]; exact e
 ·have hv:bK r (.inl t)=none:=by
   rw [decide_eq_false c] at mv
   cases q:bK r (.inl t) with
   | none=>rfl
   | some v=>rw [q] at mv; cases mv
  refine ⟨os++[t],by rw [qB _ hv,Qt,Qt,e]; rfl,?_,fun o ho=>?_⟩
  ·rw [Zs]
   exact ⟨nd,by simp,fun x hx y hy z=>c (by rw [<- Qo.mp hy,<- z]; exact hx)⟩
  ·rcases Jm.mp ho with h | h
   ·exact rg o h
   ·rw [Qo.mp h]; exact ⟨h0,h1⟩
structure HeldR (r:List (Key×V)) (f:Int->Int) (n:Nat):Prop where
 rn:nF r (n+1)
 val:∀ h v,bK r (.inl h)=some v->v=.int (f h)
 non:∀ h,bK r (.inl h)=none->f h=0
 nob:(bK r (.inl (n:Int))).isSome=true
def vA (hds:List (List (Key×V))) (hl:Nat->Int->Int) (n:Nat):Prop:=∀ w r,hds[w]?=some r->HeldR r (hl w) n
structure LLs (H:Hp) (tp:Addr) (tps:List Addr) (tk:List (List Int)):Prop where
 lst:H tp=some (.lst (tps.map V.ref))
 len:tps.length=tk.length
 row:∀ (w:Nat) q l,tps[w]?=some q->tk[w]?=some l->H q=some (.lst (l.map V.int))
theorem LLs.same {H H':Hp} {tp:Addr} {tps:List Addr} {tk:List (List Int)} (h:LLs H tp tps tk) (s:aE H H'):LLs H' tp tps tk:=⟨s _ _ h.lst,h.len,fun w q l a b=>s _ _ (h.row w q l a b)⟩
theorem LLs.but {H H':Hp} {tp t:Addr} {tps:List Addr} {tk:List (List Int)} (h:LLs H tp tps tk) (s:But t H H') (ht:∀ xs,H t≠some (.lst xs)):LLs H' tp tps tk :=
 ⟨s _ _ (fun z=>ht _ (z ▸ h.lst)) h.lst,h.len,fun w q l a b=>s _ _ (fun z=>ht _ (z ▸ h.row w q l a b)) (h.row w q l a b)⟩
theorem aDZ {tk:List (List Int)} {w:Nat} {l:List Int} (h:tk[w]?=some l):iT tk w=l:=by unfold iT; rw [Qn,h]; rfl
def vB (K:PySem.W.Frag):Sp:=fun vs H Q _=>∃ (tp hp:Addr) (tps ds:List Addr) (tk:List (List Int)) (hds:List (List (Key×V))) (hl:Nat->Int->Int) (n:Nat),vs = [.ref tp,.ref hp,.int ((n+1:Nat):Int)]/\LLs H tp tps tk/\Rows H hp ds hds/\hds.length=tk.length/\vA hds hl n/\n < 100/\(∀ w,∀ h∈iT tk w,0<=h/\h < n) /\
 ∀ rp H' qs rs,aE H H'->Rows H' rp qs rs->rs.length=n+1->aEw (EdP tk hl) rs 1000->Q (.ref rp) H'
theorem lR:FnScope ["takers", "held", "many", "rows", "work", "row", "giver", "taker"] ["takers", "held", "many"] (aH qQ):=⟨rfl,rfl,rfl,by decide +kernel,rfl,by decide +kernel,by decide +kernel⟩
theorem aCI {f:Addr} {fd:FuncData} (G:Fn K mg "handing_parts" qQ ["takers", "held", "many"] f fd) (B:Bl mg):FnOk P w K mg base CX0 1 f fd ["takers", "held", "many"] (vB K):=by
 refine G.fn.ok lR (fun vs H Q E h=>?_) (fun cdv A outer s H vs Q E hr h=>?_)
 ·obtain ⟨tp,hp,tps,ds,tk,hds,hl,n,rfl,_⟩:=h
  rfl
 ·obtain ⟨tp,hp,tps,ds,tk,hds,hl,n,rfl,L,D,hdl,HO,hn,htk,k⟩:=h
  refine ⟨_,(aF (eP (i:=3) (own:=["hand"]) (fr:=[]) (frn:=[]) (aX (aH qQ) ["takers", "held", "many", "rows", "work", "row", "giver", "taker"] rfl rfl (by decide +kernel)) rfl lR.nd rfl rfl rfl (cK rfl B.range (aA (pv 2) aC))
    (fun _ _ _ _=>(aL (i:=0) (show (["hand"]:List Str).Nodup by decide +kernel) rfl (Or.inl rfl))) (fun _ _ _ _=>cZ)
    (fun _ _ _ _=>wJ))
  (aF (eJ PassesOwn.never rfl (uD .l rfl B.enumerate (aA (pv 1) aC)) (iX rfl (aW (aL (i:=4) lR.nd rfl (Or.inl rfl)) (aW (aL (i:=5) lR.nd rfl (Or.inl rfl)) dF)))
   (aJ (uH (eJ PassesOwn.never rfl (oZ (pv 5)) (aL (i:=6) lR.nd rfl (Or.inl rfl))
   (aJ (fF (bO lV (jN (jL hr) (pv 5) (pv 6) (fun _ _=>rfl)) aI (cG _))
   (aJ (eJ PassesOwn.never rfl (cY (aV dG (pv 0) (pv 4) (fun _ _=>rfl))) (aL (i:=7) lR.nd rfl (Or.inl rfl))
   (aJ (oY (jL hr) (aV dG (pv 3) (pv 6) (fun _ _=>rfl)) (pv 7) (pv 4) rfl))))
   bX))))))
  (aJ (aY (pv 3))))),?_⟩
  refine ⟨_,rfl,_,rfl,by omega,by omega,fM (lo:=0) (n:=(((n+1:Nat):Int)).toNat) (fun σ=>∃ v,σ = [v]) (fun i zs H2=>∃ qs:List Addr,zs=qs.map V.ref/\qs.length=i/\aE H H2/\qs.Nodup/\∀ q∈qs,H q=none/\H2 q=some (.dK [])) ?_ ⟨none,rfl⟩ ⟨[],rfl,rfl,aE.refl H,Yz,fun _ h=>(Ja h).elim⟩ ?_ ?_ ?_⟩
  ·rw [sizeLine_eq]; omega
  ·rintro i zs H2 ⟨qs,rfl,hq,_⟩
   rw [Qa]; omega
  ·rintro i zs σ H2 hi ⟨v,rfl⟩ ⟨qs,rfl,hq,s2,nd,hqs⟩ hz
   refine jC ?_
   intro p hp
   refine ⟨hz,⟨_,rfl⟩,qs++[p],by rw [Qt]; rfl,by rw [Qr,hq]; rfl,s2.trans (aE.new hp),?_,fun q hq'=>?_⟩
   ·rw [Zs]
    refine ⟨nd,by simp,fun x hx y hy e=>?_⟩
    rw [Qo.mp hy] at e
    have:=(hqs x hx).2
    rw [e,hp] at this; cases this
   ·rcases Jm.mp hq' with h | h
    ·exact ⟨(hqs q h).1,(aE.new hp) _ _ (hqs q h).2⟩
    ·rw [Qo.mp h]
     exact ⟨s2.free hp,aB⟩
  ·rintro zs H2 ⟨qs,rfl,hq,s2,nd,hqs⟩ rp hrp
   have eN:(((n+1:Nat):Int)).toNat=n+1:=by omega
   rw [eN] at hq
   have s3:=s2.trans (aE.new (o:=.lst (qs.map V.ref)) hrp)
   have hrp0:H rp=none:=s2.free hrp
   have R3:Rows (upd H2 rp (.lst (qs.map V.ref))) rp qs (List.replicate (n+1) []):=⟨aB,by rw [Xi]; exact hq,nd,fun g q r h1 h2=>by
    rw [Xp] at h2
    split at h2
    ·rw [<- Option.some.inj h2]
     exact (aE.new hrp) _ _ (hqs q (Qh h1)).2
    ·cases h2⟩
   generalize upd H2 rp (.lst (qs.map V.ref))=H3 at s3 R3 ⊢
   have D3:=D.same s3
   refine ⟨_,rfl,hp,_,rfl,SqL.of D3.lst,wA (K:=K) (k:=.l) (a:=hp) (xs:=ds.map V.ref)
    (fun i σ H4=>(∃ v4 v5 v6 v7,σ = [some (.ref tp),some (.ref hp),some (.int ((n+1:Nat):Int)),some (.ref rp),v4,v5,v6,v7])/\aE H H4/\∃ rs,Rows H4 rp qs rs/\rs.length=n+1/\∀ (g:Nat) r,rs[g]?=some r->nF r n/\oA (fun w t=>w < i/\EdP tk hl g w t) r)
    ⟨⟨_,_,_,_,rfl⟩,s3,_,R3,Xi,fun g r hr=>?_⟩ (fun _ σ H4 _ ⟨_,s4,_⟩=>SqL.of (s4 _ _ D.lst)) ?_ ?_⟩
   ·rw [Xp] at hr
    split at hr
    ·rw [<- Option.some.inj hr]
     exact ⟨nF.nil,oA.nil fun w t h=>by omega⟩
    ·cases hr
   ·rintro i x p σ H4 hx ⟨⟨v4,v5,v6,v7,rfl⟩,s4,rs,R4,hl4,E4⟩ hp'
    rw [Qe] at hx
    obtain ⟨d,hd,rfl⟩:=Qz.mp hx
    have hi:i < hds.length:=by rw [<- D.len]; exact (Qd.mp hd).1
    have hri:hds[i]?=some hds[i]:=Qb hi
    generalize hds[i]=r at hri
    have hrow:=D.row i d r hd hri
    obtain ⟨hrn,hval,hnon,_⟩:=HO i r hri
    have sp:=aE.new (o:=.tup [.int (i:Nat),.ref d]) hp'
    have ep:upd H4 p (.tup [.int (i:Nat),.ref d]) p=some (.tup [.int (i:Nat),.ref d]):=aB
    have s5:=s4.trans sp
    have R5:=R4.same sp
    generalize upd H4 p (.tup [.int (i:Nat),.ref d])=H5 at sp ep s5 R5 ⊢
    refine ⟨p,_,rfl,SqT.of ep,rfl,_,_,rfl,_,_,rfl,rfl,?_⟩
    have hlt:i < tk.length:=by rw [<- hdl]; exact hi
    have hli:tk[i]?=some tk[i]:=Qb hlt
    generalize tk[i]=l at hli
    have etk:=aDZ hli
    have hti:i < tps.length:=by rw [L.len]; exact hlt
    have htq:tps[i]?=some tps[i]:=Qb hti
    generalize tps[i]=tq at htq
    have hlq:=L.row i tq l htq hli
    have nd':∀ xs,H d≠some (.lst xs):=fun xs z=>by rw [hrow] at z; cases z
    have nqd:∀ q∈qs,q≠d:=fun q hq z=>by have:=(hqs q hq).1; rw [z,hrow] at this; cases this
    have nrd:rp≠d:=fun z=>by rw [z,hrow] at hrp0; cases hrp0
    refine ⟨_,rfl,d,r,rfl,s5 _ _ hrow,fun o nf=>?_⟩
    have z6:upd H5 d (.frz o (.dK r)) d=some (.frz o (.dK r)):=aB
    have b6:But d H (upd H5 d (.frz o (.dK r))):=fun b u nb hb=>by rw [aG nb]; exact s5 _ _ hb
    have R6:Rows (upd H5 d (.frz o (.dK r))) rp qs rs:=⟨by rw [aG nrd]; exact R5.lst,R5.len,R5.nd,fun g q r' a b=>by rw [aG (nqd q (Qh a))]; exact R5.row g q r' a b⟩
    generalize upd H5 d (.frz o (.dK r))=H6 at z6 b6 R6 ⊢
    refine qE (a:=d) (o:=o) (kvs:=r) (fun j σ H7=>(∃ v6 v7,σ = [some (.ref tp),some (.ref hp),some (.int ((n+1:Nat):Int)),some (.ref rp),some (.int (i:Nat)),some (.ref d),v6,v7])/\H7 d=some (.frz o (.dK r))/\But d H H7/\∃ rs,Rows H7 rp qs rs/\rs.length=n+1/\∀ (g:Nat) r',rs[g]?=some r'->nF r' n/\oA (fun w t=>(w < i/\EdP tk hl g w t)∨(w=i/\0 < hl i g/\t∈l/\∃ (j':Nat) (kv:Key×V),j' < j/\r[j']?=some kv/\kv.1=.inl (g:Int))) r')
     ⟨⟨_,_,rfl⟩,z6,b6,rs,R6,hl4,fun g r' hr'=>⟨(E4 g r' hr').1,(E4 g r' hr').2.congr fun w t=>⟨.inl,fun z=>z.elim id fun ⟨_,_,_,j',_,hj,_⟩=>by omega⟩⟩⟩ (fun j σ H7 _ ⟨_,h,_⟩=>h) ?_ ?_
    ·rintro j ⟨key,val⟩ σ H7 hj ⟨⟨v6,v7,rfl⟩,z7,b7,rs,R7,hl7,E7⟩
     have hsome:(bK r key).isSome=true:=by
      rw [<- dM,Jz]
      exact ⟨_,Qh hj,by simp⟩
     obtain ⟨gv,rfl,hg0,hg1⟩:=hrn.key hsome
     obtain ⟨vv,hvv⟩:∃ v,bK r (.inl gv)=some v:=by
      cases q:bK r (.inl gv) with
      | none=>rw [q] at hsome; cases hsome
      | some v=>exact ⟨v,rfl⟩
     have ev:=hval gv vv hvv
     subst ev
     dsimp only [kV]
     have hcast:((gv.toNat:Nat):Int)=gv:=by omega
     refine ⟨_,rfl,_,rfl,d,.int (hl i gv),rfl,.inl ⟨r,.inl gv,.inr ⟨o,z7⟩,rfl,hvv.symm⟩,_,_,rfl,rfl,_,rfl,?_⟩
     have grow:∀ (g:Nat) (w:Nat) (t:Int),((w < i/\EdP tk hl g w t)∨(w=i/\0 < hl i g/\t∈l/\∃ (j':Nat) (kv:Key×V),j' < j+1/\r[j']?=some kv/\kv.1=.inl (g:Int))) ↔
       (((w < i/\EdP tk hl g w t)∨(w=i/\0 < hl i g/\t∈l/\∃ (j':Nat) (kv:Key×V),j' < j/\r[j']?=some kv/\kv.1=.inl (g:Int)))∨(w=i/\(g:Int)=gv/\0 < hl i gv/\t∈l)):=fun g w t=>by
      constructor
      ·rintro (z | ⟨z1,z2,z3,j',kv,z4,z5,z6⟩)
       ·exact .inl (.inl z)
       ·by_cases c:j' < j
        ·exact .inl (.inr ⟨z1,z2,z3,j',kv,c,z5,z6⟩)
        ·have ej:j'=j:=by omega
         rw [ej,hj] at z5
         have ek:(Sum.inl gv,val)=kv:=Option.some.inj z5
         have eg:gv=(g:Int):=by rw [<- ek] at z6; simpa using z6
         exact .inr ⟨z1,eg.symm,by rw [eg]; exact z2,z3⟩
      ·rintro ((z | ⟨z1,z2,z3,j',kv,z4,z5,z6⟩) | ⟨z1,z2,z3,z4⟩)
       ·exact .inl z
       ·exact .inr ⟨z1,z2,z3,j',kv,by omega,z5,z6⟩
       ·exact .inr ⟨z1,by rw [z2]; exact z3,z4,j,_,by omega,hj,by rw [z2]⟩
     refine gW (fun c=>?_) (fun c=>?_)
     ·have hpos:0 < hl i gv:=of_decide_eq_true c
      have L7:=L.but b7 nd'
      have hlq7:=L7.row i tq l htq hli
      refine ⟨_,rfl,_,rfl,tp,_,_,_,rfl,rfl,SqL.of L7.lst,cL (by rw [Qe,htq]; rfl),tq,rfl,⟨_,SqL.of hlq7⟩,iY (K:=K) (a:=tq) (xs:=l.map V.int) (fun m σ H8=>(∃ v7,σ = [some (.ref tp),some (.ref hp),some (.int ((n+1:Nat):Int)),some (.ref rp),some (.int (i:Nat)),some (.ref d),some (.int gv),v7])/\H8 d=some (.frz o (.dK r))/\But d H H8/\∃ rs,Rows H8 rp qs rs/\rs.length=n+1/\∀ (g:Nat) r',rs[g]?=some r'->nF r' n/\oA (fun w t=>((w < i/\EdP tk hl g w t)∨(w=i/\0 < hl i g/\t∈l/\∃ (j':Nat) (kv:Key×V),j' < j/\r[j']?=some kv/\kv.1=.inl (g:Int)))∨(w=i/\(g:Int)=gv/\t∈l.take m)) r')
       ⟨⟨_,rfl⟩,z7,b7,rs,R7,hl7,fun g r' hr'=>⟨(E7 g r' hr').1,(E7 g r' hr').2.congr fun w t=>⟨.inl,fun z=>z.elim id fun z=>by rw [Yx] at z; exact (Ja z.2.2).elim⟩⟩⟩ (fun _ σ H8 _ ⟨_,_,b8,_⟩=>SqL.of ((L.but b8 nd').row i tq l htq hli)) ?_ ?_⟩
      ·rintro m tv σ H8 htv ⟨⟨v7,rfl⟩,z8,b8,rs,R8,hl8,E8⟩
       obtain ⟨t,ht,rfl⟩:=iA htv
       obtain ⟨t0,t1⟩:=htk i t (by rw [etk]; exact Qh ht)
       have hgl:gv.toNat < qs.length:=by rw [hq]; omega
       have hqg:qs[gv.toNat]?=some qs[gv.toNat]:=Qb hgl
       generalize qs[gv.toNat]=qg at hqg
       have hrg:rs[gv.toNat]?=some rs[gv.toNat]:=Qb (by rw [hl8]; omega)
       generalize rs[gv.toNat]=rg at hrg
       have hat:atI (qs.map V.ref) gv=some (.ref qg):=by
        have:=cL (xs:=qs.map V.ref) (j:=gv.toNat) (v:=.ref qg) (by rw [Qe,hqg]; rfl)
        rwa [hcast] at this
       have hrow8:=R8.row _ _ _ hqg hrg
       obtain ⟨hN8,hE8⟩:=E8 _ _ hrg
       have hlen8:=hN8.len
       have hqH:=(hqs qg (Qh hqg)).1
       have nqg:=nqd qg (Qh hqg)
       refine ⟨_,rfl,_,rfl,_,rfl,rp,_,gv,_,rfl,rfl,SqL.of R8.lst,hat,_,rfl,qg,_,rfl,oU.k (k:=.inl t) hrow8 (by rw [sizeLine_eq]; omega),?_⟩
       refine ⟨⟨_,rfl⟩,by rw [aG (Ne.symm nqg)]; exact z8,fun b u nb hb=>by rw [aG (fun z=>by rw [z,hqH] at hb; cases hb)]; exact b8 b u nb hb,rs.set gv.toNat (dZ rg (.inl t) (.int (i:Nat))),R8.put hqg hrg,by rw [Za]; exact hl8,fun g2 r2 hr2=>?_⟩
       rw [Xr] at hr2
       by_cases eg:gv.toNat=g2
       ·rw [if_pos eg,if_pos (by rw [hl8]; omega)] at hr2
        cases hr2
        have eg':((g2:Nat):Int)=gv:=by omega
        refine ⟨hN8.put _ t0 t1,(hE8.put i t).congr fun w t'=>?_⟩
        rw [hcast,eg',cF ht]
        constructor
        ·rintro ((z | ⟨z1,z2,z3⟩) | ⟨z1,z2⟩)
         ·exact .inl z
         ·exact .inr ⟨z1,rfl,Jf _ z3⟩
         ·exact .inr ⟨z1,rfl,by rw [z2]; simp⟩
        ·rintro (z | ⟨z1,z2,z3⟩)
         ·exact .inl (.inl z)
         ·rcases Jm.mp z3 with z3 | z3
          ·exact .inl (.inr ⟨z1,rfl,z3⟩)
          ·exact .inr ⟨z1,Qo.mp z3⟩
       ·rw [if_neg eg] at hr2
        refine ⟨(E8 _ _ hr2).1,(E8 _ _ hr2).2.congr fun w t'=>?_⟩
        have ng:¬ ((g2:Nat):Int)=gv:=by omega
        exact ⟨fun z=>z.elim .inl fun z=>absurd z.2.1 ng,fun z=>z.elim .inl fun z=>absurd z.2.1 ng⟩
      ·rintro σ H8 ⟨⟨v7,rfl⟩,z8,b8,rs,R8,hl8,E8⟩
       refine ⟨⟨_,_,rfl⟩,z8,b8,rs,R8,hl8,fun g r' hr'=>⟨(E8 g r' hr').1,(E8 g r' hr').2.congr fun w t=>?_⟩⟩
       rw [Qa,Js,grow]
       exact ⟨fun z=>z.elim .inl fun ⟨a,b,c⟩=>.inr ⟨a,b,hpos,c⟩,fun z=>z.elim .inl fun ⟨a,b,_,c⟩=>.inr ⟨a,b,c⟩⟩
     ·have hpos:¬ 0 < hl i gv:=fun z=>c (decide_eq_true z)
      refine ⟨⟨_,_,rfl⟩,z7,b7,rs,R7,hl7,fun g r' hr'=>⟨(E7 g r' hr').1,(E7 g r' hr').2.congr fun w t=>?_⟩⟩
      rw [grow]
      exact ⟨.inl,fun z=>z.elim id fun z=>absurd z.2.2.1 hpos⟩
    ·rintro σ H7 ⟨⟨v6,v7,rfl⟩,z7,b7,rs,R7,hl7,E7⟩
     refine ⟨d,o,r,z7,nf,?_⟩
     have s8:aE H (upd H7 d (.dK r)):=fun b u hb=>by
      by_cases hbq:b=d
      ·rw [hbq] at hb ⊢
       rw [aB,<- hrow]; exact hb
      ·rw [aG hbq]; exact b7 b u hbq hb
     refine ⟨⟨_,_,_,_,rfl⟩,s8,rs,⟨by rw [aG nrd]; exact R7.lst,R7.len,R7.nd,fun g q r' a b=>by rw [aG (nqd q (Qh a))]; exact R7.row g q r' a b⟩,hl7,fun g r' hr'=>⟨(E7 g r' hr').1,(E7 g r' hr').2.congr fun w t=>?_⟩⟩
     constructor
     ·rintro (⟨z1,z2⟩ | ⟨z1,z2,z3,_⟩)
      ·exact ⟨by omega,z2⟩
      ·rw [z1]; exact ⟨by omega,hlt,z2,by rw [etk]; exact z3⟩
     ·rintro ⟨z1,z2,z3,z4⟩
      by_cases hw:w < i
      ·exact .inl ⟨hw,z2,z3,z4⟩
      ·have ew:w=i:=by omega
       subst ew
       have hs:(bK r (.inl (g:Int))).isSome=true:=by
        cases q:bK r (.inl (g:Int)) with
        | none=>rw [hnon _ q] at z3; omega
        | some v=>rfl
       rw [<- dM,Jz] at hs
       obtain ⟨kv,hk1,hk2⟩:=hs
       obtain ⟨j',hj'⟩:=Jx.mp hk1
       exact .inr ⟨rfl,z3,by rw [etk] at z4; exact z4,j',kv,(Qd.mp hj').1,hj',of_decide_eq_true hk2⟩
   ·rintro σ H4 ⟨⟨v4,v5,v6,v7,rfl⟩,s4,rs,R4,hl4,E4⟩
    refine ⟨_,rfl,k rp H4 qs rs s4 R4 hl4 fun g r hr=>⟨(E4 g r hr).2.congr fun w t=>⟨fun z=>z.2,fun z=>⟨?_,z⟩⟩,?_⟩⟩
    ·rw [Qa,D.len,hdl]; exact z.1
    ·have:=(E4 g r hr).1.len; omega
theorem HeldR.put {r:List (Key×V)} {f:Int->Int} {n:Nat} (h:HeldR r f n) {t:Int} (x:Int) (h0:0<=t) (h1:t<=n):HeldR (dZ r (.inl t) (.int x)) (fun h=>if h=t then x else f h) n:=by
 have ne:∀ {h:Int},¬ h=t->¬ (Sum.inl h:Key)=Sum.inl t:=fun c z=>c (by simpa using z)
 refine ⟨h.rn.put _ h0 (by omega),fun h' v hv=>?_,fun h' hv=>?_,?_⟩
 ·rw [iC] at hv
  by_cases c:h'=t
  ·rw [if_pos (by rw [c])] at hv
   rw [if_pos c]
   exact (Option.some.inj hv).symm
  ·rw [if_neg (ne c)] at hv
   rw [if_neg c]
   exact h.val h' v hv
 ·rw [iC] at hv
  by_cases c:h'=t
  ·rw [if_pos (by rw [c])] at hv; cases hv
  ·rw [if_neg (ne c)] at hv
   rw [if_neg c]
   exact h.non h' hv
 ·rw [iC]
  by_cases c:(n:Int)=t
  ·rw [if_pos (by rw [c])]; rfl
  ·rw [if_neg (ne c)]; exact h.nob
theorem HeldR.congr {r:List (Key×V)} {f g:Int->Int} {n:Nat} (h:HeldR r f n) (e:∀ x,f x=g x):HeldR r g n:=⟨h.rn,fun x v q=>by rw [h.val x v q,e],fun x q=>by rw [<- e]; exact h.non x q,h.nob⟩
theorem HeldR.get {r:List (Key×V)} {f:Int->Int} {n:Nat} (h:HeldR r f n) (x:Int):(bK r (.inl x)).getD (.int 0)=.int (f x):=by
 cases q:bK r (.inl x) with
 | none=>rw [h.non x q]; rfl
 | some v=>rw [h.val x v q]; rfl
theorem HeldR.pos {r:List (Key×V)} {f:Int->Int} {n:Nat} (h:HeldR r f n) {x:Int} (hx:f x≠0):bK r (.inl x)=some (.int (f x)):=by
 cases q:bK r (.inl x) with
 | none=>exact absurd (h.non x q) hx
 | some v=>rw [h.val x v q]
theorem HeldR.nobV {r:List (Key×V)} {f:Int->Int} {n:Nat} (h:HeldR r f n):bK r (.inl (n:Int))=some (.int (f n)):=by
 cases q:bK r (.inl (n:Int)) with
 | none=>have:=h.nob; rw [q] at this; cases this
 | some v=>rw [h.val n v q]
def fnL (l:List Int):Nat->Int:=fun w=>l.getD w 0
def fnI (l:List Int):Int->Int:=fun h=>l.getD h.toNat 0
theorem vC {l:List Int} {i:Nat} {x:Int} (h:l[i]?=some x):fnL l i=x:=by unfold fnL; rw [Qn,h]; rfl
theorem aCJ {l:List Int} (h:∀ x∈l,0<=x) (i:Nat):0<=fnL l i:=by
 cases q:l[i]? with
 | none=>unfold fnL; rw [Qn,q]; exact Jw _
 | some x=>rw [vC q]; exact h x (Qh q)
structure SpIn (n:Nat) (tk:List (List Int)) (am rm:List Int) (H H':Hp) (mp hp:Addr) (ds:List Addr) (rl:List Int) (hds:List (List (Key×V))) (hl:Nat->Int->Int) (room:Int->Int):Prop where
 same:aE H H'
 lst:H' mp=some (.lst (rl.map V.int))
 len:rl.length=n+1
 rmv:∀ i:Nat,i < n->rl[i]?=some (room i)
 rn:rl[n]?=some 0
 rows:Rows H' hp ds hds
 hlen:hds.length=tk.length
 held:vA hds hl n
 spr:Spr n tk (fnL am) (fnI rm) hl room
def nG (K:PySem.W.Frag):Sp:=fun vs H Q _=>∃ (tp ap mp:Addr) (tps:List Addr) (tk:List (List Int)) (am rm:List Int) (n:Nat),vs = [.ref tp,.ref ap,.ref mp]/\LLs H tp tps tk/\SqL K H ap (am.map V.int)/\H mp=some (.lst (rm.map V.int))/\am.length=tk.length/\rm.length=n/\n < 100/\tk.length<=100/\(∀ x∈am,0<=x)/\(∀ x∈rm,0<=x)/\(∀ w,∀ h∈iT tk w,0<=h/\h < n)/\rC n tk (fnL am) (fnI rm) /\
 ∀ hp ds hds hl H',aE H H'->Rows H' hp ds hds->hds.length=tk.length->vA hds hl n->Sprd n tk (fnL am) (fnI rm) hl->Q (.ref hp) H'
theorem fX:FnScope ["takers", "amounts", "rooms", "nobody", "held", "found", "last", "some", "units", "work", "giver", "taker"] ["takers", "amounts", "rooms"] (aH iR):=⟨rfl,rfl,rfl,by decide +kernel,rfl,by decide +kernel,by decide +kernel⟩
theorem aBg {f fR fW fH:Addr} {fd dR dW dH:FuncData} (G:Fn K mg "spread" iR ["takers", "amounts", "rooms"] f fd) (B:Bl mg) (GR:Fn K mg "reached" mV ["rows", "first"] fR dR) (OR:FnOk P w K mg base CX0 1 fR dR ["rows", "first"] (oC K)) (GWy:Fn K mg "way_to" uO ["found", "last"] fW dW) (OWy:FnOk P w K mg base CX0 1 fW dW ["found", "last"] (uZ K)) (GHp:Fn K mg "handing_parts" qQ ["takers", "held", "many"] fH dH) (OHp:FnOk P w K mg base CX0 1 fH dH ["takers", "held", "many"] (vB K)):FnOk P w K mg base CX0 2 f fd ["takers", "amounts", "rooms"] (nG K):=by
 refine G.fn.ok fX (fun vs H Q E h=>?_) (fun cdv A outer s H vs Q E hr h=>?_)
 ·obtain ⟨tp,ap,mp,tps,tk,am,rm,n,rfl,_⟩:=h
  rfl
 ·obtain ⟨tp,ap,mp0,tps,tk,am,rm,n,rfl,L,hap,hmp0,hal,hrl,hn,htl,ham,hrm,htk,hall,k⟩:=h
  have r1:Room 1 _:=hr
  refine ⟨_,(aF (aT (i:=3) fX.nd rfl (Or.inr rfl) (aQ aU rfl B.len eZ (aA (pv 2) aC)))
  (aF (aT (i:=2) fX.nd rfl (Or.inr rfl) (aZ yC (pv 2) (eO (aA aI aC))))
  (aF (aT (i:=4) fX.nd rfl (Or.inr rfl) (cO (own:=["amount"]) (fr:=[3]) (frn:=["nobody"]) (aX (aH iR) ["takers", "amounts", "rooms", "nobody", "held", "found", "last", "some", "units", "work", "giver", "taker"] rfl rfl (by decide +kernel)) rfl (cY (pv 1))
    (fun _ _ _ _=>(aL (i:=0) (show (["amount", "nobody"]:List Str).Nodup by decide +kernel) rfl (Or.inl rfl))) (fun _ _ _ _=>cZ)
    (fun _ _ _ _=>(wK (pv 1) (pv 0)))))
  (aF (jX PassesOwn.never (fZ (aQ (wE rfl) rfl B.any aEs (aA (cO (own:=["row"]) (fr:=[3]) (frn:=["nobody"]) (aX (aH iR) ["takers", "amounts", "rooms", "nobody", "held", "found", "last", "some", "units", "work", "giver", "taker"] rfl rfl (by decide +kernel)) rfl (cY (pv 4))
    (fun _ _ _ _=>(aL (i:=0) (show (["row", "nobody"]:List Str).Nodup by decide +kernel) rfl (Or.inl rfl))) (fun _ _ _ _=>cZ)
    (fun _ _ _ _=>(lJ lV (jN (jL hr) (pv 0) (pv 1) (fun _ _=>rfl)) aI (cG _)))) aC)))
   (aF (aT (i:=5) fX.nd rfl (Or.inl rfl) (bF GR OR r1 rfl (aA (bF GHp OHp r1 rfl (aA (pv 0) (aA (pv 4) (aA (aQ aU rfl B.len eZ (aA (pv 2) aC)) aC)))) (aA (pv 3) aC))))
  (aF (aT (i:=6) fX.nd rfl (Or.inl rfl) (aV dG (aB7 (own:=["hand"]) (fr:=[2]) (frn:=["rooms"]) (aX (aH iR) ["takers", "amounts", "rooms", "nobody", "held", "found", "last", "some", "units", "work", "giver", "taker"] rfl rfl (by decide +kernel)) rfl (pv 5)
    (fun _ _ _ _=>(aL (i:=0) (show (["hand", "rooms"]:List Str).Nodup by decide +kernel) rfl (Or.inl rfl))) (fun _ _ _ _=>kH (bO lV (aV (mS (K:=K) rfl) (pv 1) (pv 0) (fun _ _=>rfl)) aI (cG _)))
    (fun _ _ _ _=>(pv 0))) aI (fun _ _=>rfl)))
  (aF (aT (i:=7) fX.nd rfl (Or.inl rfl) (bF GWy OWy r1 rfl (aA (pv 5) (aA (pv 6) aC))))
  (aF (aT (i:=8) fX.nd rfl (Or.inl rfl) (aQ (aAN rfl) rfl B.min aBS (aA (aZ yC (eO (aA (aV dG (pv 2) (pv 6) (fun _ _=>rfl)) aC)) (cO (own:=["work", "giver", "taker"]) (fr:=[4]) (frn:=["held"]) (aX (aH iR) ["takers", "amounts", "rooms", "nobody", "held", "found", "last", "some", "units", "work", "giver", "taker"] rfl rfl (by decide +kernel)) rfl (cY (pv 7))
    (fun _ _ _ _=>(kN (K:=K) (n:=3) rfl rfl (aW (aL (i:=0) (show (["work", "giver", "taker", "held"]:List Str).Nodup by decide +kernel) rfl (Or.inl rfl)) (aW (aL (i:=1) (show (["work", "giver", "taker", "held"]:List Str).Nodup by decide +kernel) rfl (Or.inl rfl)) (aW (aL (i:=2) (show (["work", "giver", "taker", "held"]:List Str).Nodup by decide +kernel) rfl (Or.inl rfl)) dF))))) (fun _ _ _ _=>cZ)
    (fun _ _ _ _=>(jN (jL hr) (aV (mS (K:=K) rfl) (pv 3) (pv 0) (fun _ _=>rfl)) (pv 1) (fun _ _=>rfl))))) aC)))
  (aF (aC7 (pv 2) (pv 6) aB8 (pv 8) aEL mM)
  (aJ (eJ PassesOwn.never rfl (cY (pv 7)) (iX rfl (aW (aL (i:=9) fX.nd rfl (Or.inl rfl)) (aW (aL (i:=10) fX.nd rfl (Or.inl rfl)) (aW (aL (i:=11) fX.nd rfl (Or.inl rfl)) dF))))
   (aF (aDu (jL hr) (aV dG (pv 4) (pv 9) (fun _ _=>rfl)) (pv 10) (pv 8) aER (by intros; rfl))
  (aJ (oY (jL hr) (aV dG (pv 4) (pv 9) (fun _ _=>rfl)) (pv 11) (aZ gN (pS PySem.F.plainAttrs_dict PySem.F.slot_dict_get PySem.F.type_dict_get uM (aV dG (pv 4) (pv 9) (fun _ _=>rfl)) (aA (pv 11) (aA aI aC))) (pv 8)) rfl)))))))))))
  (aJ (aY (pv 4))))))),?_⟩
  refine ⟨_,rfl,mp0,_,rfl,.inl (SqL.of hmp0),?_⟩
  have hmlen:(((rm.map V.int).length:Nat):Int)=(n:Int):=by rw [Qa,hrl]
  rw [hmlen]
  dsimp only [bN]
  refine ⟨_,rfl,sz1 _,fun pz hpz=>⟨mp0,pz,_,_,rfl,rfl,(aE.new hpz) _ _ hmp0,aB,bR (by rw [Qa,hrl]; show n+1<=1000; omega),fun mp hmp=>?_⟩⟩
  have s1:=(aE.new (o:=.lst [.int 0]) hpz).trans (aE.new (o:=.lst (rm.map V.int++[.int 0])) hmp)
  have nmp:H mp=none:=(aE.new (o:=.lst [.int 0]) hpz).free hmp
  have em:upd (upd H pz (.lst [.int 0])) mp (.lst (rm.map V.int++[.int 0])) mp=some (.lst ((rm++[0]).map V.int)):=by rw [aB,Qt]; rfl
  generalize upd (upd H pz (.lst [.int 0])) mp (.lst (rm.map V.int++[.int 0]))=H1 at s1 em ⊢
  dsimp only [bN]
  -- held
  refine ⟨_,rfl,ap,rfl,⟨_,s1.seqL hap⟩,gY (K:=K) (a:=ap) (xs:=am.map V.int) (fun σ=>∃ v,σ = [v,some (.int n)]) (fun i zs H2=>∃ qs:List Addr,zs=qs.map V.ref/\qs.length=i/\aE H1 H2/\qs.Nodup/\∀ (j:Nat) q a,qs[j]?=some q->am[j]?=some a->H1 q=none/\H2 q=some (.dK [(.inl (n:Int),.int a)])) (bR (by rw [Qa]; omega)) ⟨none,rfl⟩ ⟨[],rfl,rfl,aE.refl _,Yz,fun j q a h=>by simp at h⟩ ?_ (fun i zs H2 ⟨_,_,_,s2,_⟩=>(s1.trans s2).seqL hap) ?_ ?_⟩
  ·rintro i zs H2 ⟨qs,rfl,hq,_⟩
   rw [Qa]; omega
  ·rintro i zs σ y H2 hy ⟨v,rfl⟩ ⟨qs,rfl,hq,s2,nd,hqs⟩ hz
   obtain ⟨a,ha,rfl⟩:=iA hy
   refine jC ?_
   intro p hp
   refine ⟨_,rfl,_,rfl,.inl (n:Int),rfl,aB,?_⟩
   rw [zI]
   refine ⟨hz,⟨_,rfl⟩,qs++[p],by rw [Qt]; rfl,by rw [Qr,hq]; rfl,s2.trans (aE.new hp),?_,fun j q a' hj ha'=>?_⟩
   ·rw [Zs]
    refine ⟨nd,by simp,fun x hx y hy e=>?_⟩
    rw [Qo.mp hy] at e
    obtain ⟨j,hj⟩:=Jx.mp hx
    have hjl:=(Qd.mp hj).1
    have hil:=(Qd.mp ha).1
    have:=(hqs j x _ hj (Qb (show j < am.length by omega))).2
    rw [e,hp] at this; cases this
   ·by_cases c:j < qs.length
    ·rw [Jc c] at hj
     obtain ⟨h1,h2⟩:=hqs j q a' hj ha'
     exact ⟨h1,(aE.new hp) _ _ h2⟩
    ·rw [Jh (by omega)] at hj
     have hj2:j - qs.length=0:=by
      have:=(Qd.mp hj).1
      simp at this; omega
     rw [hj2] at hj
     have e1:p=q:=by simpa using hj
     have ej:j=i:=by omega
     rw [ej,ha] at ha'
     have e2:a=a':=Option.some.inj ha'
     rw [<- e1,<- e2]
     exact ⟨s2.free hp,aB⟩
  ·rintro zs H2 ⟨ds,rfl,hdl,s2,dnd,hds0⟩ hp hhp
   rw [Qa] at hdl
   have s3:=s2.trans (aE.new (o:=.lst (ds.map V.ref)) hhp)
   have nhp1:H1 hp=none:=s2.free hhp
   have nhp:H hp=none:=s1.free nhp1
   have nds:∀ d∈ds,H1 d=none:=fun d hd=>by
    obtain ⟨j,hj⟩:=Jx.mp hd
    have hjl:=(Qd.mp hj).1
    exact (hds0 j d _ hj (Qb (show j < am.length by omega))).1
   have n1:mp≠hp:=fun z=>by rw [<- z,em] at nhp1; cases nhp1
   have n2:∀ d∈ds,d≠mp:=fun d hd z=>by have:=nds d hd; rw [z,em] at this; cases this
   have I0:SpIn n tk am rm H (upd H2 hp (.lst (ds.map V.ref))) mp hp ds (rm++[0]) (am.map fun a=>[(.inl (n:Int),.int a)]) (fun w h=>if h=n then fnL am w else 0) (fun h=>fnI rm h):=by
    refine ⟨s1.trans s3,s3 _ _ em,by simp [hrl],fun i hi=>?_,?_,⟨aB,by rw [Qa]; exact hdl,dnd,fun g q r h1 h2=>?_⟩,by rw [Qa]; exact hal,fun w r hr=>?_,aF8 (aCJ ham) (fun h=>aCJ hrm _)⟩
    ·rw [Jc (by omega),Qb (show i < rm.length by omega)]
     congr 1
     show _=rm.getD ((i:Int)).toNat 0
     rw [Qn,show ((i:Int)).toNat=i by omega,Qb (show i < rm.length by omega)]
     rfl
    ·rw [Jh (by omega),hrl,Nat.sub_self]; rfl
    ·rw [Qe] at h2
     obtain ⟨a,ha,rfl⟩:=Qz.mp h2
     exact (aE.new hhp) _ _ (hds0 g q a h1 ha).2
    ·rw [Qe] at hr
     obtain ⟨a,ha,rfl⟩:=Qz.mp hr
     have ea:=vC ha
     have hv:∀ h:Int,bK [((Sum.inl (n:Int):Key),V.int a)] (.inl h)=if h=n then some (.int a) else none:=fun h=>by
      by_cases c:h=n
      ·rw [if_pos c]; exact eA (by rw [c])
      ·have nz:¬ (Sum.inl (n:Int):Key)=Sum.inl h:=fun z=>by
        have:(n:Int)=h:=by simpa using z
        exact c this.symm
       rw [if_neg c,eS nz]; rfl
     refine ⟨⟨[(n:Int)],rfl,by simp,fun o ho=>by rw [Qo.mp ho]; omega⟩,fun h v q=>?_,fun h q=>?_,by rw [hv,if_pos rfl]; rfl⟩
     ·rw [hv] at q
      by_cases c:h=n
      ·rw [if_pos c] at q ⊢
       rw [ea]; exact (Option.some.inj q).symm
      ·rw [if_neg c] at q; cases q
     ·rw [hv] at q
      by_cases c:h=n
      ·rw [if_pos c] at q; cases q
      ·rw [if_neg c]
   generalize upd H2 hp (.lst (ds.map V.ref))=H3 at s3 I0 ⊢
   dsimp only [bN]
   have nds0:∀ d∈ds,H d=none:=fun d hd=>s1.free (nds d hd)
   -- the while
   refine ⟨fun m σ H4=>∃ rl hds hl room v5 v6 v7 v8 v9 v10 v11,m=(gM hl tk.length n).toNat/\σ = [some (.ref tp),some (.ref ap),some (.ref mp),some (.int n),some (.ref hp),v5,v6,v7,v8,v9,v10,v11]/\SpIn n tk am rm H H4 mp hp ds rl hds hl room,
    ⟨_,_,_,_,_,none,none,none,none,none,none,none,rfl,rfl,I0⟩,?_⟩
   rintro m σ H4 ⟨rl,hds,hl,room,v5,v6,v7,v8,v9,v10,v11,rfl,rfl,I4⟩
   have hdl2:ds.length=tk.length:=by rw [I4.rows.len,I4.hlen]
   refine ⟨_,rfl,hp,rfl,⟨_,SqL.of I4.rows.lst⟩,wB (K:=K) (a:=hp) (xs:=ds.map V.ref) (vs:=((List.range tk.length).map fun w=>decide (0 < hl w n)).map V.bl) (fun σ=>∃ v,σ = [v,some (.int n)]) (by rw [Qa]; omega) (by simp [hdl2]) (SqL.of I4.rows.lst) ⟨none,rfl⟩ ?_ ?_⟩
   ·rintro i x v σ H5 hx hv ⟨v0,rfl⟩ s5 Q' k'
    rw [Qe] at hx
    obtain ⟨d,hd,rfl⟩:=Qz.mp hx
    have hil:i < tk.length:=by rw [<- hdl2]; exact (Qd.mp hd).1
    rw [Qe,Qe,Xj hil] at hv
    cases hv
    have hih:i < hds.length:=by rw [I4.hlen]; exact hil
    have hri:hds[i]?=some hds[i]:=Qb hih
    generalize hds[i]=r at hri
    have hrow:=s5 _ _ (I4.rows.row i d r hd hri)
    exact ⟨_,rfl,_,rfl,d,.int (hl i n),rfl,.inl ⟨r,.inl n,.inl hrow,rfl,((I4.held i r hri).nobV).symm⟩,_,_,rfl,rfl,k' _ _ ⟨_,rfl⟩ (aE.refl _)⟩
   ·intro H5 s5 pb hpb
    refine ⟨pb,_,rfl,SqL.of aB,_,rfl,?_⟩
    have I6:SpIn n tk am rm H (upd H5 pb (.lst (((List.range tk.length).map fun w=>decide (0 < hl w n)).map V.bl))) mp hp ds rl hds hl room:=by
     have s6:=s5.trans (aE.new (o:=.lst (((List.range tk.length).map fun w=>decide (0 < hl w n)).map V.bl)) hpb)
     exact ⟨I4.same.trans s6,s6 _ _ I4.lst,I4.len,I4.rmv,I4.rn,I4.rows.same s6,I4.hlen,I4.held,I4.spr⟩
    generalize upd H5 pb (.lst (((List.range tk.length).map fun w=>decide (0 < hl w n)).map V.bl))=H6 at I6 ⊢
    refine gW (fun c=>?_) (fun c=>?_)
    ·have hpos:0 < gM hl tk.length n:=by
      obtain ⟨b,hb,hb2⟩:=Jz.mp c
      obtain ⟨w,hw,rfl⟩:=Jd.mp hb
      have h1:hl w n<=gM hl tk.length n:=hJ (f:=fun w=>hl w n) (fun v _=>I6.spr.nn v n) hw
      have h2:0 < hl w n:=of_decide_eq_true hb2
      omega
     refine ⟨fun σ' H'=>∃ m',m' < (gM hl tk.length n).toNat/\∃ rl hds hl room v5 v6 v7 v8 v9 v10 v11,m'=(gM hl tk.length n).toNat/\σ' = [some (.ref tp),some (.ref ap),some (.ref mp),some (.int n),some (.ref hp),v5,v6,v7,v8,v9,v10,v11]/\SpIn n tk am rm H H' mp hp ds rl hds hl room,fun σ' H' z=>z,?_⟩
     have L6:=L.same I6.same
     have hroom:∀ h:Int,0<=h->h < n->fnI rl h=room h:=fun h h0 h1=>by
      have:=I6.rmv h.toNat (by omega)
      rw [show ((h.toNat:Nat):Int)=h by omega] at this
      exact vC this
     have hroomn:fnI rl n=0:=by
      have:=vC I6.rn
      show rl.getD ((n:Int)).toNat 0=0
      rw [show ((n:Int)).toNat=n by omega]
      exact this
     have hatR:∀ h:Int,0<=h->h<=n->atI (rl.map V.int) h=some (.int (fnI rl h)):=fun h h0 h1=>by
      have hlt:h.toNat < rl.length:=by rw [I6.len]; omega
      have:=cL (xs:=rl.map V.int) (j:=h.toNat) (v:=.int (fnI rl h)) (by unfold fnI; rw [Qe,Qn,Qb hlt]; rfl)
      rwa [show ((h.toNat:Nat):Int)=h by omega] at this
     -- found
     refine ⟨_,rfl,_,rfl,_,rfl,mp,_,rfl,.inl (SqL.of I6.lst),tp,hp,tps,ds,tk,hds,hl,n,by rw [Qa,I6.len]; rfl,L6,I6.rows,I6.hlen,I6.held,hn,htk,fun rp H7 qs rs s7 R7 hrs E7=>?_⟩
     refine ⟨_,rfl,rp,(n:Int),qs,rs,(n:Int)+1,EdP tk hl,rfl,R7,by rw [hrs]; omega,E7,fun g w t e=>?_,by omega,by omega,by omega,fun fdp H8 fs os s8 hfd e8 T8 C8=>?_⟩
     ·have:=htk w t e.2.2; omega
     dsimp only [bN]
     have s68:=s7.trans s8
     have T8l:=T8.len
     have T8f:=T8.flen
     have nmf:mp≠fdp:=fun z=>by have:=s7 _ _ I6.lst; rw [z,hfd] at this; cases this
     refine ⟨_,rfl,fdp,fs,rfl,e8,fun o=>aAU (a:=fdp) (o:=o) (kvs:=fs) (fun σ=>∃ v,σ = [v,some (.ref mp)]) (fun i zs H9=>H9=upd H8 fdp (.frz o (.dK fs))/\zs=((os.take i).filter fun h=>decide (0 < fnI rl h)).map V.int) (bR (by omega)) ⟨_,rfl⟩ ⟨rfl,rfl⟩ (fun i zs H9 z=>?_) (fun i zs H9 z=>by rw [z.1]; exact aB) ?_ ?_⟩
     ·rw [z.2,Qa]
      exact Qv (Je _ _) (by rw [Jk]; omega)
     ·rintro i zs' σ p H9 hp9 ⟨v,rfl⟩ ⟨rfl,rfl⟩ hsz
      obtain ⟨ov,hov,hpe⟩:∃ ov,os[i]?=some ov/\p.1=.inl ov:=by
       have e:=congrArg (fun l=>l[i]?) T8.keys
       simp only [Qe] at e
       rw [hp9] at e
       cases q:os[i]? with
       | none=>rw [q] at e; cases e
       | some ov=>rw [q] at e; exact ⟨ov,rfl,Option.some.inj e⟩
      have hor:=T8.rng ov (Qh hov)
      rw [hpe]
      refine ⟨_,rfl,_,rfl,mp,_,ov,_,rfl,rfl,SqL.of (by rw [aG nmf]; exact s68 _ _ I6.lst),hatR ov hor.1 (by omega),_,_,rfl,rfl,_,rfl,?_⟩
      rw [cF hov,Xu,Qt]
      cases hc:decide (0 < fnI rl ov) with
      | true =>
       refine jY ⟨_,rfl,hsz,⟨_,rfl⟩,rfl,?_⟩
       rw [Qx,hc]; rfl
      | false =>
       refine kY ⟨⟨_,rfl⟩,rfl,?_⟩
       rw [Qx,hc]
       show _=_++[]
       rw [Xh]
     ·rintro zs' H9 ⟨rfl,rfl⟩ lp hlp
      rw [T8f,Js]
      obtain ⟨h1,ho1,h10,h1n,h1r⟩:=aE8 I6.spr hall (os:=os) C8 (Qh T8.head) hpos
      generalize hfree:(os.filter fun h=>decide (0 < fnI rl h))=free
      have hmem:∀ h,h∈free↔h∈os/\0 < fnI rl h:=fun h=>by rw [<- hfree,Qy,decide_eq_true_iff]
      have nlf:fdp≠lp:=fun z=>by rw [<- z,aB] at hlp; cases hlp
      have hlp8:H8 lp=none:=by rw [aG (Ne.symm nlf)] at hlp; exact hlp
      have s9:aE H8 (upd (upd (upd H8 fdp (.frz o (.dK fs))) lp (.lst (free.map V.int))) fdp (.dK fs)):=fun b u hb=>by
       by_cases hbf:b=fdp
       ·rw [hbf] at hb ⊢
        rw [aB,<- e8]; exact hb
       ·rw [aG hbf,aG (fun z=>by rw [z,hlp8] at hb; cases hb),aG hbf]
        exact hb
      have el9:upd (upd (upd H8 fdp (.frz o (.dK fs))) lp (.lst (free.map V.int))) fdp (.dK fs) lp=some (.lst (free.map V.int)):=by rw [aG (Ne.symm nlf),aB]
      generalize upd (upd (upd H8 fdp (.frz o (.dK fs))) lp (.lst (free.map V.int))) fdp (.dK fs)=H9 at s9 el9 ⊢
      have e9:=s9 _ _ e8
      have T9:=T8.tp (Tp.of s9)
      cases hfr:free with
      | nil =>
       have:h1∈free:=(hmem h1).mpr ⟨ho1,by rw [hroom h1 h10 h1n]; exact h1r⟩
       rw [hfr] at this; cases this
      | cons last iP =>
       rw [hfr] at el9
       obtain ⟨hlo,hlr⟩:=(hmem last).mp (by rw [hfr]; exact Qg ..)
       have hlrg:=T8.rng last hlo
       have hln:last < n:=by
        have:last≠n:=fun z=>by rw [z,hroomn] at hlr; omega
        omega
       rw [hroom last hlrg.1 hln] at hlr
       obtain ⟨jl,hjl⟩:=Jx.mp hlo
       refine ⟨lp,_,0,.int last,rfl,rfl,SqL.of el9,cL (xs:=(last::iP).map V.int) (j:=0) rfl,?_⟩
       dsimp only [bN]
       refine ⟨_,rfl,_,rfl,fdp,last,fs,os,(n:Int),(n:Int)+1,EdP tk hl,jl,rfl,e9,T9,by omega,hjl,fun sp H10 ps ss s10 hsp e10 S10 P10 N10 _ _=>?_⟩
       dsimp only [bN]
       have s610:=s68.trans (s9.trans s10)
       have hssl:ss.length<=100:=by
        have h1:(vtx (n:Int) ss).length<=n+1:=hV (n+1) _ N10 fun x hx=>by
         rcases Qp.mp hx with rfl | hx
         ·omega
         ·obtain ⟨s,hs,rfl⟩:=Jd.mp hx
          obtain ⟨i,hi⟩:=Jx.mp hs
          have:=htk _ _ ((kR P10).1 i s hi).2.1.2.2
          omega
        unfold vtx at h1
        rw [Jl,Qa] at h1
        omega
       have hpl:=S10.len
       -- units
       refine ⟨_,rfl,_,rfl,mp,_,last,_,rfl,rfl,SqL.of (s610 _ _ I6.lst),hatR last hlrg.1 (by omega),sz1 _,fun pl hpl0=>?_⟩
       rw [hroom last hlrg.1 hln]
       have sA:=aE.new (o:=.lst [.int (room last)]) hpl0
       refine ⟨_,rfl,sp,rfl,⟨_,SqL.of (sA _ _ e10)⟩,wB (K:=K) (a:=sp) (xs:=ps.map V.ref) (vs:=(ss.map fun s=>hl s.1 s.2.1).map V.int) (fun σ=>∃ x y z,σ = [x,y,z,some (.ref hp)]) (by rw [Qa]; omega) (by simp [hpl]) (SqL.of (sA _ _ e10)) ⟨none,none,none,rfl⟩ ?_ ?_⟩
       ·rintro i x v σ H11 hx hv ⟨x1,x2,x3,rfl⟩ s11 Q' k'
        rw [Qe] at hx
        obtain ⟨q,hq,rfl⟩:=Qz.mp hx
        have hsi:i < ss.length:=by rw [<- hpl]; exact (Qd.mp hq).1
        have hs:=Qb hsi
        generalize ss[i]=st at hs
        rw [Qe,Qe,hs] at hv
        cases hv
        have s611:=s610.trans (sA.trans s11)
        obtain ⟨_,⟨hw,hg,ht⟩,_⟩:=(kR P10).1 i st hs
        have hqt:=(sA.trans s11) _ _ (S10.at_ i q st hq hs)
        have hwd:st.1 < ds.length:=by rw [hdl2]; exact hw
        have hd:=Qb hwd
        generalize ds[st.1]=d at hd
        have hwh:st.1 < hds.length:=by rw [I6.hlen]; exact hw
        have hr:=Qb hwh
        generalize hds[st.1]=r at hr
        have hrow:=s611 _ _ (I6.rows.row _ d r hd hr)
        refine ⟨q,_,rfl,SqT.of hqt,rfl,_,_,rfl,_,_,rfl,_,_,rfl,rfl,?_⟩
        exact ⟨_,rfl,_,rfl,hp,_,_,_,rfl,rfl,SqL.of (s611 _ _ I6.rows.lst),cL (by rw [Qe,hd]; rfl),_,rfl,d,.int (hl st.1 st.2.1),rfl,.inl ⟨r,.inl st.2.1,.inl hrow,rfl,((I6.held _ r hr).pos (by omega)).symm⟩,k' _ _ ⟨_,_,_,rfl⟩ (aE.refl _)⟩
       ·intro H11 s11 pc hpc
        have sB:=s11.trans (aE.new (o:=.lst ((ss.map fun s=>hl s.1 s.2.1).map V.int)) hpc)
        refine ⟨pl,pc,_,_,rfl,rfl,sB _ _ aB,aB,bR (by simp; omega),fun pm hpm=>?_⟩
        have sC:=sA.trans (sB.trans (aE.new (o:=.lst ([.int (room last)]++(ss.map fun s=>hl s.1 s.2.1).map V.int)) hpm))
        have hpmE:upd (upd H11 pc (.lst ((ss.map fun s=>hl s.1 s.2.1).map V.int))) pm (.lst ([.int (room last)]++(ss.map fun s=>hl s.1 s.2.1).map V.int)) pm=some (.lst ((room last::ss.map fun s=>hl s.1 s.2.1).map V.int)):=aB
        generalize upd (upd H11 pc (.lst ((ss.map fun s=>hl s.1 s.2.1).map V.int))) pm (.lst ([.int (room last)]++(ss.map fun s=>hl s.1 s.2.1).map V.int))=H12 at sC hpmE ⊢
        refine ⟨pm,_,rfl,SqL.of hpmE,by simp,fun u hu1 hu2=>?_⟩
        dsimp only [bN]
        have u1:u<=room last:=hu2 _ (Qg ..)
        have u2:∀ s∈ss,u<=hl s.1 s.2.1:=fun s hs=>hu2 _ (Ql _ (Jd.mpr ⟨s,hs,rfl⟩))
        have u0:0 < u:=by
         rcases Qp.mp hu1 with rfl | hu1
         ·exact hlr
         ·obtain ⟨s,hs,rfl⟩:=Jd.mp hu1
          obtain ⟨i,hi⟩:=Jx.mp hs
          exact ((kR P10).1 i s hi).2.1.2.1
        have s612:=s610.trans sC
        have em12:=s612 _ _ I6.lst
        have hltl:last.toNat < rl.length:=by rw [I6.len]; omega
        have hgl:(rl.map V.int)[last.toNat]?=some (.int (room last)):=by
         rw [Qe,I6.rmv last.toNat (by omega),show ((last.toNat:Nat):Int)=last by omega]; rfl
        refine ⟨_,rfl,_,rfl,mp,_,last,_,rfl,rfl,SqL.of em12,hlrg.1,hgl,_,rfl,_,_,rfl,rfl,mp,_,last,last.toNat,rfl,rfl,em12,yX hlrg.1 (by rw [Qa,I6.len]; omega),?_⟩
        have eset:(rl.map V.int).set last.toNat (.int (room last - u))=(rl.set last.toNat (room last - u)).map V.int:=Qal.symm
        rw [eset]
        have nmp6:H mp=none:=nmp
        have s13:aE H (upd H12 mp (.lst ((rl.set last.toNat (room last - u)).map V.int))):=(I6.same.trans s612).wr nmp
        have em13:upd H12 mp (.lst ((rl.set last.toNat (room last - u)).map V.int)) mp=_:=aB
        have b13:But mp H12 (upd H12 mp (.lst ((rl.set last.toNat (room last - u)).map V.int))):=But.at
        have R12:=I6.rows.same s612
        have R13:Rows (upd H12 mp (.lst ((rl.set last.toNat (room last - u)).map V.int))) hp ds hds:=⟨(aG (Ne.symm n1)).trans R12.lst,R12.len,R12.nd,fun g q r a b=>(aG (n2 q (Qh a))).trans (R12.row g q r a b)⟩
        have nsm:sp≠mp:=fun z=>by have:=(s68.trans s9) _ _ I6.lst; rw [<- z,hsp] at this; cases this
        have es13:upd H12 mp (.lst ((rl.set last.toNat (room last - u)).map V.int)) sp=some (.lst (ps.map V.ref)):=(aG nsm).trans (sC _ _ e10)
        have S13:StepsAt (upd H12 mp (.lst ((rl.set last.toNat (room last - u)).map V.int))) ps ss:=(S10.tp (Tp.of sC)).tp (Tp.upd fun xs z=>by rw [em12] at z; cases z)
        generalize upd H12 mp (.lst ((rl.set last.toNat (room last - u)).map V.int))=H13 at s13 em13 R13 es13 S13 ⊢
        -- the steps
        refine ⟨_,rfl,sp,rfl,⟨_,SqL.of es13⟩,iY (K:=K) (a:=sp) (xs:=ps.map V.ref) (fun i σ H14=>∃ v9 v10 v11 hds' hl',σ = [some (.ref tp),some (.ref ap),some (.ref mp),some (.int n),some (.ref hp),some (.ref fdp),some (.int last),some (.ref sp),some (.int u),v9,v10,v11]/\aE H H14/\H14 mp=some (.lst ((rl.set last.toNat (room last - u)).map V.int))/\Rows H14 hp ds hds'/\hds'.length=tk.length/\vA hds' hl' n/\Gone n tk (fnL am) hl ss u i hl'/\H14 sp=some (.lst (ps.map V.ref))/\StepsAt H14 ps ss) ⟨_,_,_,hds,hl,rfl,s13,em13,R13,I6.hlen,I6.held,aFb I6.spr,es13,S13⟩ (fun i σ H14 _ ⟨_,_,_,_,_,_,_,_,_,_,_,_,h,_⟩=>SqL.of h) ?_ ?_⟩
        ·rintro i x σ H14 hx ⟨v9,v10,v11,hds',hl',rfl,s14,em14,R14,hl14,HO14,G14,es14,S14⟩
         rw [Qe] at hx
         obtain ⟨q,hq,rfl⟩:=Qz.mp hx
         have hsi:i < ss.length:=by rw [<- hpl]; exact (Qd.mp hq).1
         have hs:=Qb hsi
         generalize ss[i]=st at hs
         obtain ⟨wk,g,tt⟩:=st
         obtain ⟨_,⟨hw,hg,ht⟩,_⟩:=(kR P10).1 i _ hs
         obtain ⟨G15,ug,gt⟩:=aA4 G14 P10 N10 hs (Jn u0) u2 htk
         have hqt:=S14.at_ i q _ hq hs
         have hwd:wk < ds.length:=by rw [hdl2]; exact hw
         have hd:=Qb hwd
         generalize ds[wk]=d at hd
         have hwh:wk < hds'.length:=by rw [hl14]; exact hw
         have hr:=Qb hwh
         generalize hds'[wk]=r at hr
         have hrow:=R14.row _ d r hd hr
         have HR:=HO14 _ r hr
         have hdm:=Qh hd
         have ndm:=n2 d hdm
         have ndH:=nds0 d hdm
         have nds':sp≠d:=fun z=>by rw [z,hrow] at es14; cases es14
         obtain ⟨tt0,tt1⟩:=htk wk tt ht
         have gpos:0 < hl' wk g:=by omega
         have gr:0<=g/\g<=n:=by
          rcases G14.sup wk g hw gpos with z | z
          ·omega
          ·have:=htk wk g z; omega
         have hrl:=HR.rn.len
         refine ⟨q,_,rfl,SqT.of hqt,rfl,_,_,rfl,_,_,rfl,_,_,rfl,rfl,?_⟩
         have hat:atI (ds.map V.ref) (wk:Int)=some (.ref d):=cL (by rw [Qe,hd]; rfl)
         refine ⟨_,rfl,_,rfl,hp,_,_,_,rfl,rfl,SqL.of R14.lst,hat,_,rfl,d,.int (hl' wk g),rfl,.inl ⟨r,.inl g,.inl hrow,rfl,(HR.pos (by omega)).symm⟩,_,rfl,_,_,rfl,rfl,_,oU.k (k:=.inl g) hrow (by rw [sizeLine_eq]; omega),?_⟩
         have HR2:=HR.put (t:=g) (hl' wk g - u) gr.1 gr.2
         have R15:=R14.put (r':=dZ r (.inl g) (.int (hl' wk g - u))) hd hr
         have s15:=s14.wr (u:=.dK (dZ r (.inl g) (.int (hl' wk g - u)))) ndH
         have em15:upd H14 d (.dK (dZ r (.inl g) (.int (hl' wk g - u)))) mp=_:=(aG (Ne.symm ndm)).trans em14
         have es15:upd H14 d (.dK (dZ r (.inl g) (.int (hl' wk g - u)))) sp=_:=(aG nds').trans es14
         have S15:=S14.tp (Tp.upd (a:=d) (u:=.dK (dZ r (.inl g) (.int (hl' wk g - u)))) fun xs z=>by rw [hrow] at z; cases z)
         have hrow15:upd H14 d (.dK (dZ r (.inl g) (.int (hl' wk g - u)))) d=some (.dK (dZ r (.inl g) (.int (hl' wk g - u)))):=aB
         have hrl2:=HR2.rn.len
         generalize hr2:dZ r (.inl g) (.int (hl' wk g - u))=r2 at HR2 R15 s15 em15 es15 S15 hrow15 hrl2 ⊢
         generalize upd H14 d (.dK r2)=H15 at R15 s15 em15 es15 S15 hrow15 ⊢
         have hr2:(hds'.set wk r2)[wk]?=some r2:=by rw [Xr,if_pos rfl,if_pos hwh]
         refine ⟨_,rfl,_,rfl,hp,_,_,_,rfl,rfl,SqL.of R15.lst,hat,.inr (.inr (.inl ⟨rfl,.inl ⟨_,hrow15⟩⟩)),_,rfl,d,r2,.inl tt,.int 0,rfl,rfl,.inl hrow15,?_⟩
         rw [HR2.get tt]
         refine ⟨_,rfl,_,_,rfl,rfl,_,rfl,_,rfl,hp,_,_,_,rfl,rfl,SqL.of R15.lst,hat,_,rfl,d,_,rfl,oU.k (k:=.inl tt) hrow15 (by rw [sizeLine_eq]; omega),?_⟩
         have HR3:=HR2.put (t:=tt) ((if tt=g then hl' wk g - u else hl' wk tt)+u) tt0 (by omega)
         have R16:=R15.put (r':=dZ r2 (.inl tt) (.int ((if tt=g then hl' wk g - u else hl' wk tt)+u))) hd hr2
         refine ⟨_,_,_,(hds'.set wk r2).set wk (dZ r2 (.inl tt) (.int ((if tt=g then hl' wk g - u else hl' wk tt)+u))),mvP hl' wk g tt u,rfl,s15.wr ndH,(aG (Ne.symm ndm)).trans em15,R16,by rw [Za,Za]; exact hl14,fun v r' hr'=>?_,G15,(aG nds').trans es15,S15.tp (Tp.upd fun xs z=>by rw [hrow15] at z; cases z)⟩
         rw [Xr,Xr,Za] at hr'
         by_cases cv:wk=v
         ·rw [if_pos cv,if_pos hwh] at hr'
          rw [<- Option.some.inj hr',<- cv]
          refine HR3.congr fun x=>?_
          unfold mvP
          rw [if_pos rfl,if_neg (Ne.symm gt)]
          by_cases c1:x=tt
          ·rw [if_pos c1,if_pos c1,if_neg (fun z=>gt (by rw [<- z,c1])),c1]; omega
          ·rw [if_neg c1,if_neg c1]
           by_cases c2:x=g
           ·rw [if_pos c2,if_pos c2,c2]; omega
           ·rw [if_neg c2,if_neg c2]; omega
         ·rw [if_neg cv,if_neg cv] at hr'
          refine (HO14 v r' hr').congr fun x=>?_
          unfold mvP
          rw [if_neg (Ne.symm cv)]
        ·rintro σ H14 ⟨v9,v10,v11,hds',hl',rfl,s14,em14,R14,hl14,HO14,G14,es14,S14⟩
         rw [Qa,hpl] at G14
         obtain ⟨S',hcol⟩:=aCu I6.spr G14 P10 hln u1
         refine ⟨_,?_,_,hds',hl',_,_,_,_,_,_,_,_,rfl,rfl,s14,em14,by rw [Za]; exact I6.len,fun i hi=>?_,?_,R14,hl14,HO14,S'⟩
         ·rw [hcol]; omega
         ·rw [Xr]
          by_cases cl:last.toNat=i
          ·rw [if_pos cl,if_pos hltl,if_pos (by omega),show ((i:Nat):Int)=last by omega]
          ·rw [if_neg cl,if_neg (by omega)]
           exact I6.rmv i hi
         ·rw [Xr,if_neg (by omega)]
          exact I6.rn
    ·have hz:gM hl tk.length n<=0:=by
      have:∀ w∈List.range tk.length,hl w n=0:=fun w hw=>by
       have h0:=I6.spr.nn w n
       by_cases p:0 < hl w n
       ·exact absurd (Jz.mpr ⟨true,Jd.mpr ⟨w,hw,decide_eq_true p⟩,rfl⟩) c
       ·omega
      unfold gM
      rw [bL this]
      exact Jw _
     exact ⟨_,rfl,k hp ds hds hl H6 I6.same I6.rows I6.hlen I6.held (aDL I6.spr hz)⟩
def aD0:Scope:=match (eY kM).getD 0 (.Pass ⟨0,0,0,0⟩) with
 | .Return (some (.ListComp _ _ sc _)) _=>sc
 | _=>{ kind:=.function,names:=[],isGenerator:=false,isCoroutine:=false }
theorem aBh {X:Cx} {K:PySem.W.Frag} (hK:X.K=K) (hc:X.calm=true):fY X (.builtin "any") (fun xs H Q=>∃ (p:Addr) (bs:List Bool),xs = [.ref p]/\SqL K H p (bs.map V.bl)/\Q (.bl (bs.any id)) H):=by subst hK; exact wE hc
def lsF (ls:List (Int×Int)) (h:Int):Int×Int:=ls.getD h.toNat (0,1)
theorem aEx {K:PySem.W.Frag} {H:Hp} {ls:List (Int×Int)} {us:List V} (hd:aR K H (ls.map jF) us) {h:Int} (h0:0<=h) (h1:h < ls.length):∃ p,atI us h=some (.ref p)/\SqT K H p [.int (lsF ls h).1,.int (lsF ls h).2]/\lsF ls h∈ls:=by
 have hl:=aM hd
 rw [Qa] at hl
 have hlt:h.toNat < us.length:=by omega
 have hu:=Qb hlt
 generalize us[h.toNat]=u at hu
 obtain ⟨x,hx,hxd⟩:=cE hd hu
 obtain ⟨p,rfl,hp⟩:=dU.mp hxd
 have e:lsF ls h=x:=by unfold lsF; rw [Qn,hx]; rfl
 have:=cL hu
 rw [show ((h.toNat:Nat):Int)=h by omega] at this
 rw [e]
 exact ⟨p,this,hp,Qh hx⟩
theorem xF:∀ {bs:bU} {left:List Int} {rows:bU},eD left rows->eI left rows bs->∀ (i j:Nat) b c,i < j->bs[i]?=some b->bs[j]?=some c->∀ h∈b.1,h∉c.1
 | [],_,_,_,_,i,j,b,c,_,h,_=>by simp at h
 | d::bs,left,rows,ok,hb,i,j,b,c,hij,hi,hj=>by
  cases j with
  | zero=>omega
  | succ j =>
   cases i with
   | zero =>
    have e:d=b:=by simpa using hi
    subst e
    intro h hh hc
    have:=(nB ok.redu hb.2 c (Qh (by simpa using hj))).2.2.2 h hc
    have:=(Qy.mp this).2
    rw [fE.mpr hh] at this
    cases this
   | succ i=>exact xF ok.redu hb.2 i j b c (by omega) (by simpa using hi) (by simpa using hj)
def rS (K:PySem.W.Frag):Sp:=fun vs H Q _=>∃ (ap lp:Addr) (l:List Int) (us:List V) (ls:List (Int×Int)),vs = [.ref ap,.ref lp]/\SqT K H ap (l.map V.int)/\SqT K H lp us/\aR K H (ls.map jF) us/\(∀ x∈ls,nX x)/\l.length<=1000/\(∀ h∈l,0<=h/\h < ls.length) /\
 ∀ p H',aE H H'->H p=none->H' p=some (.lst ((cI (lsF ls) l).map V.int))->Q (.ref p) H'
theorem aCK:FnScope ["able", "loads"] ["able", "loads"] (aH kM):=⟨rfl,rfl,rfl,by decide +kernel,rfl,by decide +kernel,by decide +kernel⟩
theorem aBi {f fS:Addr} {fd dS:FuncData} (G:Fn K mg "least_loaded" kM ["able", "loads"] f fd) (B:Bl mg) (GS:Fn K mg "is_less" aAa ["one", "other"] fS dS) (OS:FnOk P w K mg base CX0 1 fS dS ["one", "other"] (yT K)):FnOk P w K mg base CX0 2 f fd ["able", "loads"] (rS K):=by
 refine G.fn.ok aCK (fun vs H Q E h=>?_) (fun cdv A outer s H vs Q E hr h=>?_)
 ·obtain ⟨ap,lp,l,us,ls,rfl,_⟩:=h
  rfl
 ·obtain ⟨ap,lp,l,us,ls,rfl,hap,hlp,hd,hok,h1000,hrg,k⟩:=h
  have r1:Room 1 _:=hr
  refine ⟨_,(aJ (aY (aBR (z0 := "hand") (own:=["hand"]) (fr:=[0,1]) (frn:=["able", "loads"]) (mF (aH kM) ["able", "loads"] rfl rfl (fun _ _=>rfl) (fun _=>rfl) (by decide +kernel)) rfl (iK (pv 0))
    (fun _ _ _ _=>(aL (i:=0) (show (["hand", "able", "loads"]:List Str).Nodup by decide +kernel) rfl (Or.inr rfl))) (fun _ _ _ _=>kH (gX (fZ (aQ (aBh (K:=K) rfl rfl) rfl B.any aEs (aA (cO (own:=["other"]) (fr:=[0,2]) (frn:=["hand", "loads"]) (aX (aDm aD0 (aH kM)) ["hand", "able", "loads"] rfl rfl (by decide +kernel)) rfl (uU (K:=K) rfl (pv 1))
    (fun _ _ _ _=>(aL (i:=0) (show (["other", "hand", "loads"]:List Str).Nodup by decide +kernel) rfl (Or.inl rfl))) (fun _ _ _ _=>cZ)
    (fun _ _ _ _=>(bF GS OS r1 rfl (aA (aV (gQ (K:=K) rfl) (pv 2) (pv 0) (fun _ _=>rfl)) (aA (aV (gQ (K:=K) rfl) (pv 2) (pv 1) (fun _ _=>rfl)) aC))))) aC)))))
    (fun _ _ _ _=>(pv 0))))),?_⟩
  refine ⟨_,rfl,ap,rfl,⟨_,hap⟩,lB (K:=K) (a:=ap) (xs:=l.map V.int) (fun σ=>∃ v,σ = [v,some (.ref ap),some (.ref lp)]) (fun i ys H1=>aE H H1/\ys=((l.take i).filter fun h=>!(l.any fun o=>iN (lsF ls o) (lsF ls h))).map V.int) (bR (by rw [Qa]; exact h1000)) ⟨none,rfl⟩ ⟨aE.refl _,rfl⟩ ?_ (fun i ys H1 ⟨s1,_⟩=>s1.seqT hap) ?_ ?_⟩
  ·rintro i ys H1 ⟨_,rfl⟩
   rw [Qa]
   exact Qv (Je _ _) (by rw [Jk]; exact Xw _ _)
  ·rintro i ys σ y H1 hy ⟨v,rfl⟩ ⟨s1,rfl⟩ hz
   obtain ⟨h,hh,rfl⟩:=iA hy
   obtain ⟨h0,h1⟩:=hrg h (Qh hh)
   refine ⟨_,rfl,ap,rfl,⟨_,s1.seqT hap⟩,jA (K:=K) (a:=ap) (xs:=l.map V.int) (vs:=(l.map fun o=>iN (lsF ls o) (lsF ls h)).map V.bl) (fun σ=>∃ v,σ = [v,some (.int h),some (.ref lp)]) (by rw [Qa]; exact h1000) (by simp) (s1.seqT hap) ⟨none,rfl⟩ ?_ ?_⟩
   ·rintro j u v σ H2 hu hv ⟨v0,rfl⟩ s2 Q' k'
    obtain ⟨o,ho,rfl⟩:=iA hu
    rw [Qe,Qe,ho] at hv
    cases hv
    have s12:=s1.trans s2
    obtain ⟨o0,o1⟩:=hrg o (Qh ho)
    have hd2:=s12.denAll _ _ hd
    obtain ⟨po,a1,a2,a3⟩:=aEx hd2 o0 o1
    obtain ⟨ph,b1,b2,b3⟩:=aEx hd2 h0 h1
    exact ⟨_,rfl,_,rfl,lp,_,o,_,rfl,rfl,s12.seqT hlp,a1,_,rfl,_,rfl,lp,_,h,_,rfl,rfl,s12.seqT hlp,b1,po,ph,_,_,_,_,rfl,lF a2 (hok _ a3),lF b2 (hok _ b3),k' _ _ ⟨_,rfl⟩ (aE.refl _)⟩
   ·intro H2 s2 pb hpb
    refine ⟨pb,_,rfl,SqL.of aB,_,rfl,?_⟩
    have e:(l.map fun o=>iN (lsF ls o) (lsF ls h)).any id=l.any fun o=>iN (lsF ls o) (lsF ls h):=by rw [Ww]; rfl
    rw [e,cF hh,Xu,Qt]
    have s3:=s1.trans (s2.trans (aE.new (o:=.lst ((l.map fun o=>iN (lsF ls o) (lsF ls h)).map V.bl)) hpb))
    cases hc:l.any fun o=>iN (lsF ls o) (lsF ls h) with
    | false =>
     refine jY ⟨_,rfl,hz,⟨_,rfl⟩,s3,?_⟩
     rw [Qx,hc]; rfl
    | true =>
     refine kY ⟨⟨_,rfl⟩,s3,?_⟩
     rw [Qx,hc]
     show _=_++[]
     rw [Xh]
  ·rintro ys H1 ⟨s1,rfl⟩ p hp
   rw [Qa,Js]
   exact k p _ (s1.trans (aE.new hp)) (s1.free hp) aB
def ldL (n:Int) (bs:bU):List (Int×Int):=(aO n.toNat).map fun h=>bM (bG bs h)
def vD (K:PySem.W.Frag):Sp:=fun vs H Q _=>∃ (x:V) (n:Int) (ws:List (List Int)) (wp:Addr) (wt:List Int),vs = [x,.ref wp]/\Den K H (cW n ws) x/\cV (cW n ws)=true/\SqT K H wp (wt.map V.int)/\rN ws wt /\
 ∀ p us bs H',aE H H'->SqT K H' p us->aR K H' ((ldL n bs).map jF) us->eI (aO n.toNat) (ws.zip wt) bs->Q (.ref p) H'
theorem aAq:FnScope ["book", "weights", "load_of"] ["book", "weights"] (aH nU):=⟨rfl,rfl,rfl,by decide +kernel,rfl,by decide +kernel,by decide +kernel⟩
theorem aCL {f fB:Addr} {fd dB:FuncData} (G:Fn K mg "part_loads" nU ["book", "weights"] f fd) (B:Bl mg) (GBl:Fn K mg "blocks" hX ["book", "weights"] fB dB) (OBl:FnOk P w K mg base CX0 7 fB dB ["book", "weights"] (nE K)):FnOk P w K mg base CX0 8 f fd ["book", "weights"] (vD K):=by
 refine G.fn.ok aAq (fun vs H Q E h=>?_) (fun cdv A outer s H vs Q E hr h=>?_)
 ·obtain ⟨x,n,ws,wp,wt,rfl,_⟩:=h
  rfl
 ·obtain ⟨x,n,ws,wp,wt,rfl,hx,hbk,hwp,hwt,k⟩:=h
  have r7:Room 7 _:=hr
  refine ⟨_,(aF (aT (i:=2) aAq.nd rfl (Or.inr rfl) (aAV (own:=["some", "load", "hand"]) (fr:=[]) (frn:=[]) (aX (aH nU) ["book", "weights", "load_of"] rfl rfl (by decide +kernel)) rfl (cY (bF GBl OBl r7 rfl (aA (pv 0) (aA (pv 1) aC))))
    (fun _ _ _ _=>(kN (K:=K) (n:=2) rfl rfl (aW (aL (i:=0) (show (["some", "load", "hand"]:List Str).Nodup by decide +kernel) rfl (Or.inl rfl)) (aW (aL (i:=1) (show (["some", "load", "hand"]:List Str).Nodup by decide +kernel) rfl (Or.inl rfl)) dF)))) (fun _ _ _ _=>(uU (K:=K) rfl (pv 0))) (fun _ _ _ _=>(aL (i:=2) (show (["some", "load", "hand"]:List Str).Nodup by decide +kernel) rfl (Or.inl rfl)))
    (fun _ _ _ _=>(pv 2)) (fun _ _ _ _=>(pv 1))))
  (aJ (aY (dY eV rfl B.tuple gG (aA (cO (own:=["hand"]) (fr:=[2]) (frn:=["load_of"]) (aX (aH nU) ["book", "weights", "load_of"] rfl rfl (by decide +kernel)) rfl (cK rfl B.range (aA (aV bB (pv 0) aI (fun _ _=>rfl)) aC))
    (fun _ _ _ _=>(aL (i:=0) (show (["hand", "load_of"]:List Str).Nodup by decide +kernel) rfl (Or.inl rfl))) (fun _ _ _ _=>cZ)
    (fun _ _ _ _=>(jN (jL hr) (pv 1) (pv 0) (fun _ _=>rfl)))) aC))))),?_⟩
  obtain ⟨a,b,ys,rfl,ha,hb,hys⟩:=iD hx
  obtain ⟨hn1,hn6,h12,_⟩:=cX hbk
  obtain ⟨RO,_,_⟩:=kD hbk hwt
  refine ⟨_,rfl,_,rfl,_,n,ws,wp,wt,rfl,hx,hbk,hwp,hwt,fun tp us bs H1 s1 ntp etp DB hbl hus=>?_⟩
  have hbm:=nB RO hbl
  rw [bH] at hbm
  refine ⟨tp,rfl,⟨_,SqL.of etp⟩,wP (K:=K) (a:=tp) (xs:=us) (fun i kvs σ H2=>H2=H1/\(∃ x y z,σ = [x,y,z])/\kvs.length<=6*i/\∀ (j:Nat) c h,j < i->bs[j]?=some c->h∈c.1->∃ v,bK kvs (.inl h)=some v/\Den K H1 (jF (bM (c.2,(c.1.length:Int)))) v) ⟨rfl,⟨_,_,_,rfl⟩,Qk _,fun j c h hj=>by omega⟩ (fun i ys σ H2 ⟨e,_⟩=>by rw [e]; exact SqL.of etp) ?_ ?_⟩
  ·rintro i x kvs σ H2 hx2 ⟨rfl,⟨x1,x2,x3,rfl⟩,hlen,hin⟩
   obtain ⟨c,hc,hcd⟩:=cE DB hx2
   obtain ⟨pp,pq,pr,rfl,hpp,hpq,hpr⟩:=aDW hcd
   have hi6:i < 6:=Qi (Qd.mp hx2).1 hus
   have hcl:=hbm c (Qh hc)
   refine ⟨pp,_,rfl,hpp,rfl,_,_,rfl,_,_,rfl,rfl,?_⟩
   refine ⟨_,rfl,pq,rfl,⟨_,hpq⟩,uL (K:=K) (b:=pq) (zs:=c.1.map V.int) (fun j kvs' σ H3=>H3=H2/\(∃ z,σ = [some (.ref pq),some (.ref pr),z])/\kvs'.length<=6*i+j/\(∀ (j':Nat) c' h,j' < i->bs[j']?=some c'->h∈c'.1->∃ v,bK kvs' (.inl h)=some v/\Den K H2 (jF (bM (c'.2,(c'.1.length:Int)))) v)/\∀ h∈c.1.take j,bK kvs' (.inl h)=some (.ref pr)) ⟨rfl,⟨_,rfl⟩,hlen,hin,fun h hh=>by rw [Yx] at hh; cases hh⟩ (fun j ys σ H3 ⟨e,_⟩=>by rw [e]; exact hpq) ?_ ?_⟩
   ·rintro j z kvs' σ H3 hz ⟨rfl,⟨z0,rfl⟩,hl',hin',hnew⟩
    obtain ⟨h,hh,rfl⟩:=iA hz
    have hjl:j < c.1.length:=(Qd.mp hh).1
    refine ⟨_,rfl,_,rfl,.inl h,rfl,by rw [sizeLine_eq]; omega,rfl,⟨_,rfl⟩,Qv (jM _ _ _) (by omega),fun j' c' h' hj' hc' hh'=>?_,fun h' hh'=>?_⟩
    ·have ne:¬ (Sum.inl h':Key)=Sum.inl h:=fun z=>by
      have e:h'=h:=by simpa using z
      exact xF RO hbl j' i c' c hj' hc' hc h' hh' (by rw [e]; exact Qh hh)
     rw [iC,if_neg ne]
     exact hin' j' c' h' hj' hc' hh'
    ·rw [iC]
     by_cases e:h'=h
     ·rw [if_pos (by rw [e])]
     ·rw [if_neg (fun z=>e (by simpa using z))]
      rw [cF hh] at hh'
      rcases Jm.mp hh' with hh' | hh'
      ·exact hnew h' hh'
      ·exact absurd (Qo.mp hh') e
   ·rintro kvs' σ H3 ⟨rfl,⟨z0,rfl⟩,hl',hin',hnew⟩
    rw [Qa] at hl' hnew
    rw [Js] at hnew
    refine ⟨rfl,⟨_,_,_,rfl⟩,by omega,fun j' c' h' hj' hc' hh'=>?_⟩
    by_cases e:j' < i
    ·exact hin' j' c' h' e hc' hh'
    ·have ej:j'=i:=by omega
     rw [ej,hc] at hc'
     have ec:c=c':=Option.some.inj hc'
     rw [<- ec] at hh' ⊢
     exact ⟨_,hnew h' hh',dU.mpr ⟨pr,rfl,hpr⟩⟩
  ·rintro kvs σ H2 ⟨rfl,_,hlen,hin⟩ dp hdp
   have hul:=aM DB
   rw [Qa] at hul
   have s3:=aE.new (o:=.dK kvs) hdp
   have ed:upd H2 dp (.dK kvs) dp=some (.dK kvs):=aB
   have hfin:∀ h∈aO n.toNat,∃ v,bK kvs (.inl h)=some v/\Den K H2 (jF (bM (bG bs h))) v:=fun h hh=>by
    obtain ⟨c,c1,c2,c3⟩:=lQ hbl h hh
    obtain ⟨j,hj⟩:=Jx.mp c1
    rw [c3]
    exact hin j c h (by rw [hul]; exact (Qd.mp hj).1) hj c2
   generalize upd H2 dp (.dK kvs)=H3 at s3 ed ⊢
   dsimp only [bN]
   have s13:=s1.trans s3
   refine ⟨_,rfl,a,_,0,.int n,rfl,rfl,s13.seqT ha,rfl,n,rfl,by omega,by omega,fM (lo:=0) (n:=n.toNat) (fun σ=>∃ v,σ = [v,some (.ref dp)]) (fun i zs H4=>H4=H3/\aR K H3 ((((aO n.toNat).take i).map fun h=>bM (bG bs h)).map jF) zs) (bR (by omega)) ⟨none,rfl⟩ ⟨rfl,aN.mpr rfl⟩ ?_ ?_ ?_⟩
   ·rintro i zs H4 ⟨_,d4⟩
    rw [aM d4,Qa,Qa,Jk]
    exact Xw _ _
   ·rintro i zs σ H4 hi ⟨v,rfl⟩ ⟨rfl,d4⟩ hz
    have hui:=gD hi
    obtain ⟨v',hv',hvd⟩:=hfin (i:Int) (Qh hui)
    refine jC ?_
    refine ⟨_,rfl,_,rfl,dp,v',rfl,.inl ⟨kvs,.inl (i:Int),.inl ed,by show V.int (0+(i:Int))=V.int (i:Int); rw [Xo],hv'.symm⟩,hz,⟨_,rfl⟩,rfl,?_⟩
    rw [cF hui,Qt,Qt]
    exact bV d4 (aK.mpr ⟨_,_,rfl,s3.den _ _ hvd,aN.mpr rfl⟩)
   ·rintro zs H4 ⟨rfl,d4⟩ lp hlp
    rw [show (aO n.toNat).take n.toNat=aO n.toNat from Xg (by rw [bH]; exact Qk _)] at d4
    refine ⟨lp,zs,rfl,.inl ⟨SqL.of aB,fun tpp htp=>?_⟩⟩
    have s5:=(aE.new (o:=.lst zs) hlp).trans (aE.new (o:=.tup zs) htp)
    exact k tpp zs bs _ (s13.trans s5) (SqT.of aB) (s5.denAll _ _ d4) hbl
end
def aD1:Scope:=match (eY fO).getD 4 (.Pass ⟨0,0,0,0⟩) with
 | .Assign _ (.ListComp _ _ sc _) _=>sc
 | _=>{ kind:=.function,names:=[],isGenerator:=false,isCoroutine:=false }
theorem rT (g:List Int->Int->Int):∀ (ws:List (List Int)) (wt:List Int),wt.length=ws.length->aD ((List.range ws.length).map fun w=>g (ws.getD w []) (wt.getD w 0))=aD ((ws.zip wt).map fun r=>g r.1 r.2)
 | [],_,_=>rfl
 | _::_,[],h=>by cases h
 | l::ws,x::wt,h=>by
  rw [Jl,List.range_succ_eq_map,Jg,Xy,List.zip_cons_cons,Jg]
  show g l x+aD ((List.range ws.length).map fun w=>g (ws.getD w []) (wt.getD w 0))=g l x+_
  rw [rT g ws wt (by simpa using h)]
  rfl
structure Parts (n:Nat) (ws:List (List Int)) (wt:List Int) (bs:bU) (hl:Nat->Int->Int):Prop where
 nn:∀ w h,0<=hl w h
 sup:∀ w h,w < ws.length->0 < hl w h->h∈cI (bG bs) (ws.getD w [])
 rows:∀ w,w < ws.length->aD ((aO n).map (hl w))=wt.getD w 0*60
 cols:∀ h:Int,0<=h->h < n->aD ((List.range ws.length).map fun w=>hl w h)=gF bs h
theorem iJ {α β:Type} (f:α->β) (l:List α) (i:Nat) (a:α) (b:β) (h:i < l.length):(l.map f).getD i b=f (l.getD i a):=by
 rw [Qn,Qn,Qe,Qb h]; rfl
theorem rV {n:Nat} (f:Int->Int) {h:Int} (h0:0<=h) (h1:h < n):fnI ((aO n).map f) h=f h:=by
 have:=gD (n:=n) (i:=h.toNat) (by omega)
 unfold fnI
 rw [Qn,Qe,this,show ((h.toNat:Nat):Int)=h by omega]; rfl
section
variable {n:Int} {ws:List (List Int)} {wt:List Int} {bs:bU}
theorem aD2 (hl:wt.length=ws.length) (hb:eI (aO n.toNat) (ws.zip wt) bs) (ok:eD (aO n.toNat) (ws.zip wt)) (h6:n<=6):rC n.toNat (ws.map (cI (bG bs))) (fnL (wt.map (· * 60))) (fnI ((aO n.toNat).map (gF bs))):=fun R=>by
 have h1:=yO hb ok (by rw [bH]; omega) R
 rw [Qa]
 have e1:aD ((List.range ws.length).map fun w=>if (iT (ws.map (cI (bG bs))) w).all R=true then fnL (wt.map (· * 60)) w else 0)=aD ((List.range ws.length).map fun w=>(fun l x=>if (cI (bG bs) l).all R=true then 60*x else 0) (ws.getD w []) (wt.getD w 0)):=aS fun w hw=>by
  have hw':=Jt.mp hw
  unfold iT fnL
  rw [iJ _ ws w [] [] hw',iJ _ wt w 0 0 (by omega),Jv]
 have e2:aD ((aO n.toNat).map fun h=>if R h=true then fnI ((aO n.toNat).map (gF bs)) h else 0)=aD ((aO n.toNat).map fun h=>if R h=true then gF bs h else 0):=aS fun h hh=>by
  obtain ⟨a,b⟩:=bE.mp hh
  rw [rV _ a b]
 rw [e1.trans (rT (fun l x=>if (cI (bG bs) l).all R=true then 60*x else 0) ws wt hl),e2]
 have e3:aD ((ws.zip wt).map fun r=>if (cI (bG bs) r.1).all R=true then 60*r.2 else 0)=60*aD ((ws.zip wt).map fun r=>if (cI (bG bs) r.1).all R=true then r.2 else 0):=by
  rw [<- dX]
  exact aS fun r _=>by split <;> omega
 rw [e3]
 exact h1
theorem aCM {hl:Nat->Int->Int} (hlen:wt.length=ws.length) (hb:eI (aO n.toNat) (ws.zip wt) bs) (ok:eD (aO n.toNat) (ws.zip wt)) (h6:n<=6) (S:Sprd n.toNat (ws.map (cI (bG bs))) (fnL (wt.map (· * 60))) (fnI ((aO n.toNat).map (gF bs))) hl):Parts n.toNat ws wt bs hl:=by
 refine ⟨S.nn,fun w h hw hp=>?_,fun w hw=>?_,fun h h0 h1=>?_⟩
 ·have:=S.sup w h (by rw [Qa]; exact hw) hp
  unfold iT at this
  rwa [iJ _ ws w [] [] hw] at this
 ·have:=S.rows w (by rw [Qa]; exact hw)
  unfold fnL at this
  rwa [iJ _ wt w 0 0 (by omega)] at this
 ·have ht:aD ((List.range (ws.map (cI (bG bs))).length).map (fnL (wt.map (· * 60))))=aD ((aO n.toNat).map (fnI ((aO n.toNat).map (gF bs)))):=by
   have e2:aD ((aO n.toNat).map (fnI ((aO n.toNat).map (gF bs))))=aD ((aO n.toNat).map (gF bs)):=aS fun h hh=>by
    obtain ⟨a,b⟩:=bE.mp hh
    exact rV _ a b
   rw [e2,<- aAm hb ok (by rw [bH]; omega),Qa]
   have e1:aD ((List.range ws.length).map (fnL (wt.map (· * 60))))=aD ((List.range ws.length).map fun w=>(fun (_:List Int) (x:Int)=>60*x) (ws.getD w []) (wt.getD w 0)):=aS fun w hw=>by
    have hw':=Jt.mp hw
    unfold fnL
    rw [iJ _ wt w 0 0 (by omega),Jv]
   rw [e1.trans (rT (fun (_:List Int) (x:Int)=>60*x) ws wt hlen),<- dX]
  have:=aA5 S ht h h0 h1
  unfold gM at this
  rw [Qa] at this
  rw [this,rV _ h0 h1]
theorem xG (hb:eI (aO n.toNat) (ws.zip wt) bs) (ok:eD (aO n.toNat) (ws.zip wt)) (h6:n<=6) {h:Int} (hh:h∈aO n.toNat):0<=(bG bs h).1/\0 < (bG bs h).2/\(bG bs h).2<=6/\∃ k:Nat,(bG bs h).2=k:=by
 obtain ⟨b,b1,b2,b3⟩:=lQ hb h hh
 obtain ⟨c1,c2,c3,_⟩:=nB ok hb b b1
 rw [bH] at c2
 have:=Xb.mpr c1
 rw [b3]
 exact ⟨c3,by show (0:Int) < b.1.length; omega,by show (b.1.length:Int)<=6; omega,b.1.length,rfl⟩
theorem aCN {x:Int×Int} (h:0 < x.2):(bM x).1*60 / (bM x).2=x.1*60 / x.2:=by
 have a:=rG x.1 h
 have b:=rH x.1 h
 have g:=iS (a:=x.1) h
 show bP x.1 x.2*60 / bI x.1 x.2=x.1*60 / x.2
 conv=>rhs; rw [<- a]
 conv=>rhs; arg 2; rw [<- b]
 rw [Ji,Zl _ _ g]
theorem aBj {f:Int->Int×Int} {l:List Int} {g:Int->Int×Int} (h:∀ x∈l,0 < (f x).2/\g x=bM (f x)):cI g l=cI f l:=by
 unfold cI
 refine List.filter_congr fun x hx=>?_
 congr 1
 rw [Xm,Jz,Jz]
 refine ⟨fun ⟨o,a,b⟩=>⟨o,a,?_⟩,fun ⟨o,a,b⟩=>⟨o,a,?_⟩⟩
 ·rwa [(h o a).2,(h x hx).2,nC (h o a).1 (h x hx).1] at b
 ·rw [(h o a).2,(h x hx).2,nC (h o a).1 (h x hx).1]; exact b
theorem vE:(ldL n bs).length=n.toNat:=by unfold ldL; rw [Qa,bH]
theorem aFg {h:Int} (h0:0<=h) (h1:h < n):lsF (ldL n bs) h=bM (bG bs h):=by
 have:=gD (n:=n.toNat) (i:=h.toNat) (by omega)
 unfold lsF ldL
 rw [Qn,Qe,this,show ((h.toNat:Nat):Int)=h by omega]; rfl
theorem aCO (hb:eI (aO n.toNat) (ws.zip wt) bs) (hbk:cV (cW n ws)=true) (hw:rN ws wt):∀ x∈ldL n bs,nX x/\0<=x.1/\x.1<=100000/\x.2<=6:=fun x hx=>by
 obtain ⟨h,hh,rfl⟩:=Jd.mp hx
 obtain ⟨_,h6,_,_⟩:=cX hbk
 obtain ⟨ok,rs,rl⟩:=kD hbk hw
 obtain ⟨a,b,c,_⟩:=xG hb ok h6 hh
 have ha:(bG bs h).1<=1188:=by
  obtain ⟨d,d1,d2,d3⟩:=lQ hb h hh
  rw [d3]
  have key:∀ {bs:bU} {left:List Int} {rows:bU},RwS rows->eI left rows bs->∀ b∈bs,b.2<=rows.length*99:=by
   intro bs
   induction bs with
   | nil=>intro _ _ _ _ b hb; cases hb
   | cons e bs ih =>
    intro left rows rs hb b hm
    rcases Qp.mp hm with rfl | hm
    ·rw [hb.1.2.2.1]; exact (aCF rs _).2
    ·have h1:=ih rs.redu hb.2 b hm
     have h2:=xE rows e.1
     omega
  have:=key rs hb d d1
  show d.2<=1188
  omega
 have p1:=eE (bG bs h).1 b
 have p2:=kS (a:=(bG bs h).1) b
 have p3:=pI a b
 have p4:=pJ a b
 refine ⟨⟨p1,Xv (show (bM (bG bs h)).2<=6 by show bI _ _<=6; omega) (by decide),Jy (show (bM (bG bs h)).1.natAbs<=1188 by show (bP _ _).natAbs<=1188; omega) (by decide)⟩,p3,by show bP _ _<=_; omega,by show bI _ _<=_; omega⟩
end
def shD (n:Int) (f:Int->Int):PyData:=.tuple (((aO n.toNat).map fun h=>bM (f h,60)).map jF)
section
variable {P:Program} {w:World} {K:PySem.W.Frag} {mg:Str->Option Value} {base:Heap}
def lS (K:PySem.W.Frag):Sp:=fun vs H Q _=>∃ (x:V) (n:Int) (ws:List (List Int)) (wp:Addr) (wt:List Int),vs = [x,.ref wp]/\Den K H (cW n ws) x/\cV (cW n ws)=true/\SqT K H wp (wt.map V.int)/\rN ws wt /\
 ∀ p lp us sp zs bs hl H',aE H H'->SqT K H' p [.ref lp,.ref sp]->SqT K H' lp us->aR K H' ((ldL n bs).map jF) us->H sp=none->H' sp=some (.lst zs)->aR K H' ((List.range ws.length).map fun w=>shD n (hl w)) zs->eI (aO n.toNat) (ws.zip wt) bs->Parts n.toNat ws wt bs hl->Q (.ref p) H'
theorem iW:FnScope ["book", "weights", "loads", "takers", "rooms", "held", "shares"] ["book", "weights"] (aH fO):=⟨rfl,rfl,rfl,by decide +kernel,rfl,by decide +kernel,by decide +kernel⟩
theorem yZ {f fP fL fS fW:Addr} {fd dP dL dS dW:FuncData} (G:Fn K mg "in_parts" fO ["book", "weights"] f fd) (B:Bl mg) (GPl:Fn K mg "part_loads" nU ["book", "weights"] fP dP) (OPl:FnOk P w K mg base CX0 8 fP dP ["book", "weights"] (vD K)) (GLl:Fn K mg "least_loaded" kM ["able", "loads"] fL dL) (OLl:FnOk P w K mg base CX0 2 fL dL ["able", "loads"] (rS K)) (GSp:Fn K mg "spread" iR ["takers", "amounts", "rooms"] fS dS) (OSp:FnOk P w K mg base CX0 2 fS dS ["takers", "amounts", "rooms"] (nG K)) (GL:Fn K mg "lowest" kL ["a", "b"] fW dW) (OL:FnOk P w K mg base CX0 2 fW dW ["a", "b"] gR):FnOk P w K mg base CX0 9 f fd ["book", "weights"] (lS K):=by
 obtain ⟨tun,hun⟩:=B.un
 refine G.fn.ok iW (fun vs H Q E h=>?_) (fun cdv A outer s H vs Q E hr h=>?_)
 ·obtain ⟨x,n,ws,wp,wt,rfl,_⟩:=h
  rfl
 ·obtain ⟨x,n,ws,wp,wt,rfl,hx,hbk,hwp,hwt,k⟩:=h
  have r8:Room 8 _:=hr
  have r2:Room 2 _:=hr.mono (by decide)
  refine ⟨_,(aF (aT (i:=2) iW.nd rfl (Or.inr rfl) (bF GPl OPl r8 rfl (aA (pv 0) (aA (pv 1) aC))))
  (aF (eP (i:=3) (own:=["able"]) (fr:=[2]) (frn:=["loads"]) (aX (aH fO) ["book", "weights", "loads", "takers", "rooms", "held", "shares"] rfl rfl (by decide +kernel)) rfl iW.nd rfl rfl rfl (iK (aV bB (pv 0) aI (fun _ _=>rfl)))
    (fun _ _ _ _=>(aL (i:=0) (show (["able", "loads"]:List Str).Nodup by decide +kernel) rfl (Or.inl rfl))) (fun _ _ _ _=>cZ)
    (fun _ _ _ _=>(bF GLl OLl r2 rfl (aA (pv 0) (aA (pv 1) aC)))))
  (aF (eP (i:=4) (own:=["a", "b"]) (fr:=[]) (frn:=[]) (aX (aH fO) ["book", "weights", "loads", "takers", "rooms", "held", "shares"] rfl rfl (by decide +kernel)) rfl iW.nd rfl rfl rfl (iK (pv 2))
    (fun _ _ _ _=>(kN (K:=K) (n:=2) rfl rfl (aW (aL (i:=0) (show (["a", "b"]:List Str).Nodup by decide +kernel) rfl (Or.inl rfl)) (aW (aL (i:=1) (show (["a", "b"]:List Str).Nodup by decide +kernel) rfl (Or.inl rfl)) dF)))) (fun _ _ _ _=>cZ)
    (fun _ _ _ _=>(aZ iI (aZ dQ (pv 0) (lH (v:=.int 60) rfl hun ⟨tun,rfl⟩)) (pv 1))))
  (aF (aT (i:=5) iW.nd rfl (Or.inl rfl) (bF GSp OSp r2 rfl (aA (pv 3) (aA (cO (own:=["weight"]) (fr:=[]) (frn:=[]) (aX (aH fO) ["book", "weights", "loads", "takers", "rooms", "held", "shares"] rfl rfl (by decide +kernel)) rfl (iK (pv 1))
    (fun _ _ _ _=>(aL (i:=0) (show (["weight"]:List Str).Nodup by decide +kernel) rfl (Or.inl rfl))) (fun _ _ _ _=>cZ)
    (fun _ _ _ _=>(aZ dQ (pv 0) (lH (v:=.int 60) rfl hun ⟨tun,rfl⟩)))) (aA (pv 4) aC)))))
  (aF (oM (i:=6) (z0 := "row") (own:=["row"]) (fr:=[0]) (frn:=["book"]) (mF (aH fO) ["book", "weights", "loads", "takers", "rooms", "held", "shares"] rfl rfl (fun _ _=>rfl) (fun _=>rfl) (by decide +kernel)) rfl iW.nd rfl rfl rfl (cY (pv 5))
    (fun _ _ _ _=>(aL (i:=0) (show (["row", "book"]:List Str).Nodup by decide +kernel) rfl (Or.inr rfl))) (fun _ _ _ _=>cZ)
    (fun _ _ _ _=>(dY (lD (K:=K) rfl) rfl B.tuple gG (aA (cO (own:=["hand"]) (fr:=[0]) (frn:=["row"]) (aX (aDm aD1 (aH fO)) ["row", "book"] rfl rfl (by decide +kernel)) rfl (cK rfl B.range (aA (aV (gQ (K:=K) rfl) (pv 1) aI (fun _ _=>rfl)) aC))
    (fun _ _ _ _=>(aL (i:=0) (show (["hand", "row"]:List Str).Nodup by decide +kernel) rfl (Or.inl rfl))) (fun _ _ _ _=>cZ)
    (fun _ _ _ _=>(bF GL OL r2 rfl (aA (aCl (K:=K) rfl PySem.F.plainAttrs_dict PySem.F.slot_dict_get PySem.F.type_dict_get uM (pv 1) (aA (pv 0) (aA aI aC))) (aA (lH (v:=.int 60) rfl hun ⟨tun,rfl⟩) aC))))) aC))))
  (aJ (aY (cU (aA (pv 2) (aA (pv 6) aC)))))))))),?_⟩
  obtain ⟨a,b,ys,rfl,ha,hb,hys⟩:=iD hx
  have hly:=aM hys
  rw [Qa] at hly
  obtain ⟨hn1,hn6,h12,hws⟩:=cX hbk
  obtain ⟨RO,RS,RL⟩:=kD hbk hwt
  refine ⟨_,rfl,_,rfl,_,n,ws,wp,wt,rfl,hx,hbk,hwp,hwt,fun lp us bs H1 s1 hlp dlp hbl=>?_⟩
  dsimp only [bN]
  have hlo:=aCO hbl hbk hwt
  have hul:=aM dlp
  rw [Qa,vE] at hul
  have hwr:∀ l∈ws,∀ h∈l,h∈aO n.toNat/\0<=h/\h < n:=fun l hl h hh=>by
   have:=(gJ (hws l hl)).2.1 h hh
   exact ⟨bE.mpr (by omega),this⟩
  -- takers
  refine ⟨_,rfl,a,_,1,.ref b,rfl,rfl,s1.seqT ha,rfl,b,rfl,⟨_,s1.seqT hb⟩,lB (K:=K) (a:=b) (xs:=ys) (fun σ=>∃ v,σ = [v,some (.ref lp)]) (fun i zs H2=>∃ qs:List Addr,zs=qs.map V.ref/\qs.length=i/\aE H1 H2/\∀ (j:Nat) q l,qs[j]?=some q->ws[j]?=some l->H2 q=some (.lst ((cI (bG bs) l).map V.int))) (bR (by omega)) ⟨none,rfl⟩ ⟨[],rfl,rfl,aE.refl _,fun j q l h=>by simp at h⟩ ?_ (fun i zs H2 ⟨_,_,_,s2,_⟩=>(s1.trans s2).seqT hb) ?_ ?_⟩
  ·rintro i zs H2 ⟨qs,rfl,hq,_⟩
   rw [Qa]; omega
  ·rintro i zs σ y H2 hy ⟨v,rfl⟩ ⟨qs,rfl,hq,s2,hqs⟩ hz
   obtain ⟨l,hl,hld⟩:=cE hys hy
   obtain ⟨al,rfl,hal⟩:=cM.mp hld
   have hlm:=Qh hl
   obtain ⟨c1,c2,c3⟩:=gJ (hws l hlm)
   have hl6:=kO (by omega) c2 c3
   have s12:=s1.trans s2
   refine ⟨_,rfl,_,rfl,al,lp,l,us,ldL n bs,rfl,s12.seqT hal,s2.seqT hlp,s2.denAll _ _ dlp,fun x hx=>(hlo x hx).1,by omega,fun h hh=>by rw [vE]; have:=c2 h hh; omega,fun p H3 s3 np ep=>?_⟩
   have el:cI (lsF (ldL n bs)) l=cI (bG bs) l:=aBj fun h hh=>by
    obtain ⟨d1,d2,d3⟩:=hwr l hlm h hh
    exact ⟨(xG hbl RO hn6 d1).2.1,aFg d2 d3⟩
   rw [el] at ep
   refine ⟨hz,⟨_,rfl⟩,qs++[p],by rw [Qt]; rfl,by rw [Qr,hq]; rfl,s2.trans s3,fun j q l' hj hl'=>?_⟩
   by_cases cj:j < qs.length
   ·rw [Jc cj] at hj
    exact s3 _ _ (hqs j q l' hj hl')
   ·rw [Jh (by omega)] at hj
    have hj2:j - qs.length=0:=by
     have:=(Qd.mp hj).1
     simp at this; omega
    rw [hj2] at hj
    have e1:p=q:=by simpa using hj
    rw [show j=i by omega,hl] at hl'
    rw [<- e1,<- Option.some.inj hl']
    exact ep
  ·rintro zs H2 ⟨qs,rfl,hq,s2,hqs⟩ tp htp
   have s3:=s2.trans (aE.new (o:=.lst (qs.map V.ref)) htp)
   have L3:LLs (upd H2 tp (.lst (qs.map V.ref))) tp qs (ws.map (cI (bG bs))):=⟨aB,by rw [Qa]; omega,fun j q l hj hl=>by
    rw [Qe] at hl
    obtain ⟨l0,h0,rfl⟩:=Qz.mp hl
    exact (aE.new htp) _ _ (hqs j q l0 hj h0)⟩
   generalize upd H2 tp (.lst (qs.map V.ref))=H3 at s3 L3 ⊢
   -- rooms
   refine ⟨_,rfl,lp,rfl,⟨_,s3.seqT hlp⟩,jA (K:=K) (a:=lp) (xs:=us) (vs:=((aO n.toNat).map (gF bs)).map V.int) (fun σ=>∃ v w,σ = [v,w]) (by omega) (by rw [Qa,Qa,bH,hul]) (s3.seqT hlp) ⟨none,none,rfl⟩ ?_ ?_⟩
   ·rintro i u v σ H4 hu hv ⟨v0,w0,rfl⟩ s4 Q' k'
    obtain ⟨x,hx2,hxd⟩:=cE ((s3.trans s4).denAll _ _ dlp) hu
    obtain ⟨px,rfl,hpx⟩:=dU.mp hxd
    have hil:i < n.toNat:=by rw [<- hul]; exact (Qd.mp hu).1
    have hui:=gD hil
    rw [Qe,Qe,hui] at hv
    cases hv
    unfold ldL at hx2
    rw [Qe,hui] at hx2
    have ex:bM (bG bs (i:Int))=x:=Option.some.inj hx2
    obtain ⟨o1,o2,o3,o4⟩:=hlo x (by rw [<- ex]; exact Jd.mpr ⟨_,Qh hui,rfl⟩)
    have er:gF bs (i:Int)=x.1*60 / x.2:=by
     rw [<- ex]
     exact (aCN (xG hbl RO hn6 (Qh hui)).2.1).symm
    refine ⟨px,_,rfl,hpx,rfl,_,_,rfl,_,_,rfl,rfl,?_⟩
    refine ⟨_,rfl,_,_,rfl,rfl,⟨gI (by omega),gI (by decide)⟩,_,rfl,_,_,rfl,rfl,⟨o1.1,gI (by have:=o1.1; omega)⟩,?_⟩
    rw [er] at k'
    exact k' _ _ ⟨_,_,rfl⟩ (aE.refl _)
   ·intro H4 s4 mp hmp
    have s5:=s3.trans (s4.trans (aE.new (o:=.lst (((aO n.toNat).map (gF bs)).map V.int)) hmp))
    have em:upd H4 mp (.lst (((aO n.toNat).map (gF bs)).map V.int)) mp=some (.lst (((aO n.toNat).map (gF bs)).map V.int)):=aB
    have L5:=L3.same (s4.trans (aE.new (o:=.lst (((aO n.toNat).map (gF bs)).map V.int)) hmp))
    generalize upd H4 mp (.lst (((aO n.toNat).map (gF bs)).map V.int))=H5 at s5 em L5 ⊢
    have s15:=s1.trans s5
    -- amounts
    refine ⟨_,rfl,_,rfl,wp,rfl,⟨_,s15.seqT hwp⟩,jA (K:=K) (a:=wp) (xs:=wt.map V.int) (vs:=(wt.map (· * 60)).map V.int) (fun σ=>∃ v,σ = [v]) (by rw [Qa,hwt.1]; omega) (by simp) (s15.seqT hwp) ⟨none,rfl⟩ ?_ ?_⟩
    ·rintro i u v σ H6 hu hv ⟨v0,rfl⟩ s6 Q' k'
     obtain ⟨x,hx2,rfl⟩:=iA hu
     rw [Qe,Qe,hx2] at hv
     cases hv
     have:=hwt.2 x (Qh hx2)
     exact ⟨_,rfl,_,_,rfl,rfl,⟨gI (by omega),gI (by decide)⟩,k' _ _ ⟨_,rfl⟩ (aE.refl _)⟩
    ·intro H6 s6 ap hap
     have s7:=s6.trans (aE.new (o:=.lst ((wt.map (· * 60)).map V.int)) hap)
     have s57:=s5.trans s7
     refine ⟨_,rfl,tp,ap,mp,qs,ws.map (cI (bG bs)),wt.map (· * 60),(aO n.toNat).map (gF bs),n.toNat,rfl,L5.same s7,SqL.of aB,s7 _ _ em,by rw [Qa,Qa]; exact hwt.1,by rw [Qa,bH],by omega,by rw [Qa]; omega,fun x hx2=>?_,fun x hx2=>?_,fun w h hh=>?_,aD2 hwt.1 hbl RO hn6,fun hp ds hds hl H8 s8 R8 hdl HO S8=>?_⟩
     ·obtain ⟨y,hy,rfl⟩:=Jd.mp hx2
      have:=hwt.2 y hy
      omega
     ·obtain ⟨h,hh,rfl⟩:=Jd.mp hx2
      obtain ⟨d1,d2,_⟩:=xG hbl RO hn6 hh
      exact Zi (by omega) (by omega)
     ·unfold iT at hh
      by_cases cw:w < ws.length
      ·rw [iJ _ ws w [] [] cw] at hh
       have hm:ws.getD w []∈ws:=by
        rw [Qn,Qb cw]; exact Zx cw
       have:=(hwr _ hm h (rA.mp hh).1).2
       omega
      ·rw [Qn,Zr (by rw [Qa]; omega)] at hh
       cases hh
     have PT:=aCM hwt.1 hbl RO hn6 S8
     rw [Qa] at hdl
     dsimp only [bN]
     have s78:=s7.trans s8
     have s18:=s15.trans s78
     have hdsl:ds.length=ws.length:=by rw [R8.len,hdl]
     -- shares
     refine ⟨_,rfl,hp,rfl,⟨_,SqL.of R8.lst⟩,gY (K:=K) (a:=hp) (xs:=ds.map V.ref) (fun σ=>∃ v,σ = [v,some (.ref a)]) (fun i zs H9=>aE H8 H9/\aR K H9 (((List.range ws.length).take i).map fun w=>shD n (hl w)) zs) (bR (by rw [Qa]; omega)) ⟨none,rfl⟩ ⟨aE.refl _,aN.mpr rfl⟩ ?_ (fun i zs H9 ⟨s9,_⟩=>s9.seqL (SqL.of R8.lst)) ?_ ?_⟩
     ·rintro i zs H9 ⟨_,d9⟩
      rw [aM d9,Qa,Jk]
      exact Xw _ _
     ·rintro i zs σ y H9 hy ⟨v,rfl⟩ ⟨s9,d9⟩ hz
      rw [Qe] at hy
      obtain ⟨d,hd,rfl⟩:=Qz.mp hy
      have hil:i < ws.length:=by rw [<- hdsl]; exact (Qd.mp hd).1
      have hih:i < hds.length:=by rw [hdl]; exact hil
      have hri:=Qb hih
      generalize hds[i]=r at hri
      have hrow:=s9 _ _ (R8.row i d r hd hri)
      have HR:=HO i r hri
      have s19:=s18.trans s9
      refine ⟨_,rfl,a,_,0,.int n,rfl,rfl,s19.seqT ha,rfl,n,rfl,by omega,by omega,fM (lo:=0) (n:=n.toNat) (fun σ=>∃ v,σ = [v,some (.ref d)]) (fun j as H10=>aE H9 H10/\aR K H10 ((((aO n.toNat).take j).map fun h=>bM (hl i h,60)).map jF) as) (bR (by omega)) ⟨none,rfl⟩ ⟨aE.refl _,aN.mpr rfl⟩ ?_ ?_ ?_⟩
      ·rintro j as H10 ⟨_,d10⟩
       rw [aM d10,Qa,Qa,Jk]
       exact Xw _ _
      ·rintro j as σ H10 hj ⟨v,rfl⟩ ⟨s10,d10⟩ hz2
       have huj:=gD hj
       have hrow10:=s10 _ _ hrow
       refine jC ?_
       refine ⟨_,rfl,.inr (.inr (.inl ⟨rfl,.inl ⟨_,hrow10⟩⟩)),_,rfl,d,r,.inl (0+(j:Int)),.int 0,rfl,rfl,.inl hrow10,?_⟩
       rw [HR.get,Xo]
       refine ⟨_,_,rfl,by decide,?_,fun p hp2=>?_⟩
       ·exact Xv (show (60:Int)<=2^10 by decide) (by decide)
       ·refine ⟨hz2,⟨_,rfl⟩,s10.trans (aE.new hp2),?_⟩
        rw [cF huj,Qt,Qt]
        exact bV ((aE.new hp2).denAll _ _ d10) (aK.mpr ⟨_,_,rfl,dU.mpr ⟨p,rfl,SqT.of aB⟩,aN.mpr rfl⟩)
      ·rintro as H10 ⟨s10,d10⟩ pl hpl
       rw [show (aO n.toNat).take n.toNat=aO n.toNat from Xg (by rw [bH]; exact Qk _)] at d10
       refine ⟨pl,as,rfl,.inl ⟨SqL.of aB,fun pt hpt=>?_⟩⟩
       have s11:=(aE.new (o:=.lst as) hpl).trans (aE.new (o:=.tup as) hpt)
       refine ⟨hz,⟨_,rfl⟩,s9.trans (s10.trans s11),?_⟩
       rw [cF (Xj hil),Qt]
       exact bV ((s10.trans s11).denAll _ _ d9) (aK.mpr ⟨_,_,rfl,bJ.mpr ⟨pt,as,rfl,SqT.of aB,s11.denAll _ _ d10⟩,aN.mpr rfl⟩)
     ·rintro zs H9 ⟨s9,d9⟩ sp hsp
      rw [Qa,hdsl,Xg (by rw [Jp]; exact Qk _)] at d9
      have sE:=s9.trans (aE.new (o:=.lst zs) hsp)
      have nsp:H sp=none:=(s18.trans s9).free hsp
      have hlpE:=(s5.trans (s78.trans sE)).seqT hlp
      have dlpE:=(s5.trans (s78.trans sE)).denAll _ _ dlp
      have sAll:=s18.trans sE
      have es:upd H9 sp (.lst zs) sp=some (.lst zs):=aB
      have dsE:=(aE.new (o:=.lst zs) hsp).denAll _ _ d9
      generalize upd H9 sp (.lst zs)=H10 at hlpE dlpE sAll es dsE ⊢
      exact ⟨_,rfl,_,rfl,bR (show 2<=1000 by decide),fun p hp2=>k p lp us sp zs bs hl _ (sAll.trans (aE.new hp2)) (SqT.of aB) ((aE.new hp2).seqT hlpE) ((aE.new hp2).denAll _ _ dlpE) nsp ((aE.new hp2) _ _ es) ((aE.new hp2).denAll _ _ dsE) hbl PT⟩
end
theorem aBk {left:List Int} {rows:bU} (ok:eD left rows) (p q:Int->Bool):wIn rows p+wIn rows q<=wIn rows (fun h=>p h || q h)+wIn rows (fun h=>p h && q h):=by
 unfold wIn
 rw [<- cS,<- cS]
 refine cC fun r hr=>?_
 have h0:=(ok r hr).2.2
 have a1:r.1.all p=true->r.1.all (fun h=>p h || q h)=true:=fun h=>Jb.mpr fun x hx=>by rw [Jb.mp h x hx]; rfl
 have a2:r.1.all q=true->r.1.all (fun h=>p h || q h)=true:=fun h=>Jb.mpr fun x hx=>by rw [Jb.mp h x hx]; exact Bool.or_true _
 have a3:r.1.all p=true->r.1.all q=true->r.1.all (fun h=>p h && q h)=true:=fun h h'=>Jb.mpr fun x hx=>by rw [Jb.mp h x hx,Jb.mp h' x hx]; rfl
 by_cases c1:r.1.all p=true
 ·rw [if_pos c1,if_pos (a1 c1)]
  by_cases c2:r.1.all q=true
  ·rw [if_pos c2,if_pos (a3 c1 c2)]; exact Jw _
  ·rw [if_neg c2]; split <;> omega
 ·rw [if_neg c1]
  by_cases c2:r.1.all q=true
  ·rw [if_pos c2,if_pos (a2 c2)]; split <;> omega
  ·rw [if_neg c2]; split <;> split <;> omega
theorem aBl (left:List Int) (p q:Int->Bool):gB left (fun h=>p h || q h)+gB left (fun h=>p h && q h)=gB left p+gB left q:=by
 unfold gB
 induction left with
 | nil=>rfl
 | cons x l ih =>
  rw [Qx,Qx,Qx,Qx]
  cases hp:p x <;> cases hq:q x
  ·simp only [Yn,Yg,Xq,if_false]; exact ih
  ·simp only [Yn,Yg,Xq,if_false,if_true,Jl]; omega
  ·simp only [Wv,Zc,Xq,if_false,if_true,Jl]; omega
  ·simp only [Wv,Zc,if_true,Jl]; omega
theorem rW {left:List Int} {rows:bU} {s:List Int} {m:Int} (ok:eD left rows) (H:uS left rows s m) {p:Int->Bool} (h:wIn rows p*s.length=m*gB left p):∀ x∈left,p x=true->x∈s:=by
 obtain ⟨a1,a2,a3,a4⟩:=H
 have cA:gB left (inS s)=s.length:=by unfold gB; rw [<- a2]
 have ps:(0:Int) < s.length:=by have:=Xb.mpr a1; omega
 have h1:=aBk ok (inS s) p
 have h2:=aBl left (inS s) p
 rw [<- a3] at h1
 rw [cA] at h2
 obtain ⟨b1,b2⟩:=a4 fun h=>inS s h || p h
 have c1:=(a4 fun h=>inS s h && p h).1
 have d1:(m+wIn rows p)*s.length<=(wIn rows (fun h=>inS s h || p h)+wIn rows (fun h=>inS s h && p h))*s.length:=Jo h1 (Jn ps)
 rw [Xs,Xs,h] at d1
 have d2:m*(gB left (fun h=>inS s h || p h)+gB left (fun h=>inS s h && p h))=m*(s.length+gB left p):=by rw [h2]
 rw [Zy,Zy] at d2
 have d3:=b2 (by omega)
 rw [nW a2] at d3
 intro x hx hp
 by_cases c:x∈s
 ·exact c
 ·have:x∈(left.filter fun h=>!inS s h).filter p:=Qy.mpr ⟨Qy.mpr ⟨hx,by rw [show inS s x=false from decide_eq_false c]; rfl⟩,hp⟩
  have:=List.length_pos_of_mem this
  unfold gB at d3
  omega
theorem aBm {left:List Int} {rows:bU} {s s':List Int} {m m':Int} (ok:eD left rows) (H:uS left rows s m) (H':uS left rows s' m'):s=s'/\m=m':=by
 have cA:gB left (inS s)=s.length:=by unfold gB; rw [<- H.2.1]
 have cB:gB left (inS s')=s'.length:=by unfold gB; rw [<- H'.2.1]
 have e1:=(H.2.2.2 (inS s')).1
 have e2:=(H'.2.2.2 (inS s)).1
 rw [<- H'.2.2.1,cB] at e1
 rw [<- H.2.2.1,cA] at e2
 have e:m'*s.length=m*s'.length:=by omega
 have t1:=rW ok H (p:=inS s') (by rw [<- H'.2.2.1,cB]; exact e)
 have t2:=rW ok H' (p:=inS s) (by rw [<- H.2.2.1,cA]; exact e.symm)
 have es:s=s':=by
  rw [H.2.1,H'.2.1]
  refine List.filter_congr fun x hx=>?_
  rw [Xm,fE,fE]
  exact ⟨fun h=>t2 x hx (fE.mpr h),fun h=>t1 x hx (fE.mpr h)⟩
 exact ⟨es,by rw [H.2.2.1,H'.2.2.1,es]⟩
theorem xH {rows:bU} {s:List Int} {m:Int} (H:uS [] rows s m):False:=H.1 (by rw [H.2.1]; rfl)
theorem rX:∀ {bs bs':bU} {left:List Int} {rows:bU},eD left rows->eI left rows bs->eI left rows bs'->bs=bs'
 | [],[],_,_,_,_,_=>rfl
 | [],c::_,left,rows,_,h,h'=>by
  rw [show left = [] from h] at h'
  exact (xH h'.1).elim
 | b::_,[],left,rows,_,h,h'=>by
  rw [show left = [] from h'] at h
  exact (xH h.1).elim
 | b::bs,c::bs',left,rows,ok,h,h'=>by
  obtain ⟨e1,e2⟩:=aBm ok h.1 h'.1
  have e:b=c:=Prod.ext e1 e2
  subst e
  rw [rX ok.redu h.2 h'.2]
def cut (D x p:Int):Int:=max 0 (min D (x - p*D))
theorem aCP {D x y p:Int} (h:x<=y):cut D x p<=cut D y p:=by
 unfold cut; generalize p*D=q; omega
theorem aFh {D x p:Int} (h:0 < D):cut D x p<=D:=by
 unfold cut; omega
theorem aFi {D x p:Int}:0<=cut D x p:=by
 unfold cut; omega
theorem vF {D:Int} (hD:0 < D) {x:Int} (hx:0<=x):∀ m:Nat,aD ((aO m).map (cut D x))=min x (m*D)
 | 0=>by
  show (0:Int)=min x (((0:Nat):Int)*D)
  rw [Int.natCast_zero,Yw]; omega
 | m+1=>by
  rw [gL,Qt,cH,vF hD hx m]
  show min x (m*D)+(cut D x m+0)=min x (((m+1:Nat):Int)*D)
  have:((m+1:Nat):Int)*D=m*D+D:=by rw [Yq,Xs]; omega
  rw [this]
  unfold cut
  have:0<=(m:Int)*D:=Zw (by omega) (by omega)
  generalize (m:Int)*D=q at this ⊢
  omega
def cl (D x:Int):Int:=(x+D - 1) / D
theorem aCQ {D x:Int} (hD:0 < D):x<=cl D x*D:=by
 unfold cl
 have:=Int.lt_ediv_add_one_mul_self (x+D - 1) hD
 rw [Xs] at this
 omega
theorem aEy {D x:Int} (hD:0 < D):cl D x*D<=x+D - 1:=by
 unfold cl
 exact Wx _ (by omega)
theorem aD3 {D x y:Int} (hD:0 < D) (h:x<=y):cl D x<=cl D y:=Int.ediv_le_ediv hD (by omega)
theorem aAr {D x k:Int} (hD:0 < D) (h:x<=k*D):cl D x<=k:=by
 have h1:=aEy (x:=x) hD
 have h2:cl D x*D < (k+1)*D:=by rw [Xs]; omega
 have:=Zu h2 (by omega)
 omega
def nH (lo hi:Int):List Int:=(List.range (hi - lo).toNat).map fun (i:Nat)=>lo+(i:Int)
theorem xI {lo hi p:Int}:p∈nH lo hi↔lo<=p/\p < hi:=by
 unfold nH
 rw [Jd]
 constructor
 ·rintro ⟨i,hi,rfl⟩
  have:=Jt.mp hi
  omega
 ·rintro ⟨a,b⟩
  exact ⟨(p - lo).toNat,Jt.mpr (by omega),by omega⟩
def ovL (D:Int) (g:Int->Int):Int->List Int->Int->Int->Int
 | _,[],_,_=>0
 | F,x::ms,w,p=>(if w=x then cut D (F+g x) p - cut D F p else 0)+ovL D g (F+g x) ms w p
def plc (D:Int) (g:Int->Int):Int->List Int->Int->List Int
 | _,[],_=>[]
 | F,x::ms,w=>if w=x then nH (F / D) (cl D (F+g x)) else plc D g (F+g x) ms w
section
variable {D:Int} {g:Int->Int}
theorem aEz:∀ {ms:List Int} {F:Int},(∀ x∈ms,0<=g x)->∀ w p,0<=ovL D g F ms w p
 | [],_,_,_,_=>Jw _
 | x::ms,F,h,w,p=>by
  have h1:=aEz (ms:=ms) (F:=F+g x) (fun y hy=>h y (Ql _ hy)) w p
  have h2:=h x (Qg ..)
  have h3:=aCP (D:=D) (x:=F) (y:=F+g x) (p:=p) (by omega)
  show 0<=(if w=x then cut D (F+g x) p - cut D F p else 0)+ovL D g (F+g x) ms w p
  split <;> omega
theorem aCR:∀ {ms:List Int} {F:Int} {w p:Int},w∉ms->ovL D g F ms w p=0
 | [],_,_,_,_=>rfl
 | x::ms,F,w,p,h=>by
  have h1:=aCR (ms:=ms) (F:=F+g x) (p:=p) fun z=>h (Ql _ z)
  show (if w=x then cut D (F+g x) p - cut D F p else 0)+ovL D g (F+g x) ms w p=0
  rw [if_neg (fun z=>h (by rw [z]; exact Qg ..)),h1]; rfl
theorem aAs {m:Nat} {p:Int}:∀ {ms:List Int} {F:Int},(∀ x∈ms,0<=x/\x < m)->aD ((aO m).map fun w=>ovL D g F ms w p)=cut D (F+aD (ms.map g)) p - cut D F p
 | [],F,_=>by
  rw [show aD ((aO m).map fun w=>ovL D g F [] w p)=0 from bL fun w _=>rfl]
  show 0=cut D (F+0) p - _
  rw [Zp]; omega
 | x::ms,F,h=>by
  have h1:=aAs (p:=p) (ms:=ms) (F:=F+g x) fun y hy=>h y (Ql _ hy)
  show aD ((aO m).map fun w=>(if w=x then cut D (F+g x) p - cut D F p else 0)+ovL D g (F+g x) ms w p)=cut D (F+(g x+aD (ms.map g))) p - cut D F p
  rw [cS,h1,iH _ x (jS m) (bE.mpr (h x (Qg ..))),<- Qag]
  omega
theorem aD4 {ms:List Int} (h:∀ x∈ms,0<=g x):0<=aD (ms.map g):=eU h
theorem aAt {m:Nat} (hD:0 < D) {w:Int}:∀ {ms:List Int} {F:Int},ms.Nodup->(∀ x∈ms,0<=g x)->0<=F->F+aD (ms.map g)<=m*D->aD ((aO m).map fun p=>ovL D g F ms w p)=if w∈ms then g w else 0
 | [],F,_,_,_,_=>by
  rw [show aD ((aO m).map fun p=>ovL D g F [] w p)=0 from bL fun w _=>rfl,if_neg Ja]
 | x::ms,F,nd,h,h0,hm=>by
  have hx:=h x (Qg ..)
  have hr:∀ y∈ms,0<=g y:=fun y hy=>h y (Ql _ hy)
  have hs:=aD4 hr
  have hm':F+(g x+aD (ms.map g))<=m*D:=hm
  have h1:=aAt (m:=m) hD (w:=w) (ms:=ms) (F:=F+g x) (Xa.mp nd).2 hr (by omega) (by omega)
  show aD ((aO m).map fun p=>(if w=x then cut D (F+g x) p - cut D F p else 0)+ovL D g (F+g x) ms w p)=_
  rw [cS,h1]
  by_cases c:w=x
  ·have e1:aD ((aO m).map fun p=>if w=x then cut D (F+g x) p - cut D F p else 0)=g x:=by
    have:aD ((aO m).map fun p=>(if w=x then cut D (F+g x) p - cut D F p else 0)+cut D F p)=aD ((aO m).map (cut D (F+g x))):=aS fun p _=>by rw [if_pos c]; omega
    have h3:=vF hD h0 m
    have h4:=vF hD (x:=F+g x) (by omega) m
    rw [cS] at this
    have h5:aD ((aO m).map fun p=>cut D F p)=aD ((aO m).map (cut D F)):=rfl
    omega
   rw [e1,if_neg (fun z=>(Xa.mp nd).1 (c ▸ z)),if_pos (by rw [c]; exact Qg ..),c]; omega
  ·rw [bL fun p _=>if_neg c]
   by_cases q:w∈ms
   ·rw [if_pos q,if_pos (Ql _ q)]; omega
   ·rw [if_neg q,if_neg (fun z=>(Qp.mp z).elim c q)]; omega
theorem aAu (hD:0 < D) {w p:Int}:∀ {ms:List Int} {F:Int},ms.Nodup->(∀ x∈ms,0<=g x)->p∉plc D g F ms w->ovL D g F ms w p=0
 | [],_,_,_,_=>rfl
 | x::ms,F,nd,h,hp=>by
  have hx:=h x (Qg ..)
  show (if w=x then cut D (F+g x) p - cut D F p else 0)+ovL D g (F+g x) ms w p=0
  by_cases c:w=x
  ·rw [if_pos c,aCR (fun z=>(Xa.mp nd).1 (c ▸ z))]
   have hp':p∉nH (F / D) (cl D (F+g x)):=fun z=>hp (by show p∈(if w=x then _ else _); rw [if_pos c]; exact z)
   rw [xI] at hp'
   by_cases c1:F / D<=p
   ·have c2:cl D (F+g x)<=p:=by omega
    have h1:=aCQ (x:=F+g x) hD
    have h2:=Jo c2 (Jn hD)
    unfold cut
    generalize p*D=q at h2 ⊢
    omega
   ·have c2:p+1<=F / D:=by omega
    have h1:=Wx F (show D≠0 by omega)
    have h2:=Jo c2 (Jn hD)
    rw [Xs] at h2
    unfold cut
    generalize p*D=q at h2 ⊢
    omega
  ·rw [if_neg c,aAu hD (Xa.mp nd).2 (fun y hy=>h y (Ql _ hy)) fun z=>hp (by show p∈(if w=x then _ else _); rw [if_neg c]; exact z)]
   rfl
theorem zC {w p:Int}:∀ {ms:List Int} {F:Int},p∈plc D g F ms w->w∈ms
 | [],_,h=>(Ja h).elim
 | x::ms,F,h=>by
  have h':p∈(if w=x then nH (F / D) (cl D (F+g x)) else plc D g (F+g x) ms w):=h
  by_cases c:w=x
  ·rw [c]; exact Qg ..
  ·rw [if_neg c] at h'
   exact Ql _ (zC h')
theorem vG (hD:0 < D) {w p:Int}:∀ {ms:List Int} {F:Int},0<=F->(∀ x∈ms,0<=g x)->p∈plc D g F ms w->∀ k,w∈ms.take k->0<=p/\p < cl D (F+aD ((ms.take k).map g))
 | [],_,_,_,h,_,_=>(Ja h).elim
 | x::ms,F,h0,hg,h,0,hk=>by rw [Yx] at hk; exact (Ja hk).elim
 | x::ms,F,h0,hg,h,k+1,hk=>by
  have h':p∈(if w=x then nH (F / D) (cl D (F+g x)) else plc D g (F+g x) ms w):=h
  have hx:=hg x (Qg ..)
  have hr:∀ y∈ms,0<=g y:=fun y hy=>hg y (Ql _ hy)
  rw [List.take_succ_cons] at hk ⊢
  show 0<=p/\p < cl D (F+(g x+aD ((ms.take k).map g)))
  have hs:0<=aD ((ms.take k).map g):=eU fun y hy=>hr y (Ze hy)
  by_cases c:w=x
  ·rw [if_pos c,xI] at h'
   have h1:=aD3 (D:=D) (x:=F+g x) (y:=F+(g x+aD ((ms.take k).map g))) hD (by omega)
   have h2:0<=F / D:=Zi h0 (Jn hD)
   omega
  ·rw [if_neg c] at h'
   have:=vG hD (ms:=ms) (F:=F+g x) (by omega) hr h' k ((Qp.mp hk).resolve_left c)
   rw [<- Qag]
   exact this
theorem aGa {W c:Int->Int}:∀ {ms:List Int} {s wb:Int},ms.Pairwise (fun x y=>W y<=W x)->(∀ x∈ms,W x<=wb)->(∀ x∈ms,0<=W x)->0<=wb->(∀ k,0<=s+aD ((ms.take k).map fun x=>g x - D*c x)) ->
  D*aD (ms.map fun x=>W x*c x)<=aD (ms.map fun x=>W x*g x)+s*wb
 | [],s,wb,_,_,_,hw,hs=>by
  have h0:0<=s+0:=hs 0
  show D*0<=0+s*wb
  have:=Zw (show 0<=s by omega) hw
  rw [Yl]
  omega
 | x::ms,s,wb,pw,hb,hp,hw,hs=>by
  have hx:=hb x (Qg ..)
  have h0:0<=s:=by have:0<=s+0:=hs 0; omega
  have ih:=aGa (W:=W) (c:=c) (ms:=ms) (s:=s+g x - D*c x) (wb:=W x) (Zn.mp pw).2 (Zn.mp pw).1 (fun y hy=>hp y (Ql _ hy)) (hp x (Qg ..)) fun k=>by
   have:0<=s+((g x - D*c x)+aD ((ms.take k).map fun x=>g x - D*c x)):=hs (k+1)
   omega
  show D*(W x*c x+aD (ms.map fun x=>W x*c x))<=(W x*g x+aD (ms.map fun x=>W x*g x))+s*wb
  have e1:D*(W x*c x+aD (ms.map fun x=>W x*c x))=D*c x*W x+D*aD (ms.map fun x=>W x*c x):=by
   rw [Zy,Jv (W x) (c x),<- Ji]
  have e2:(s+g x - D*c x)*W x=s*W x+W x*g x - D*c x*W x:=by
   rw [Qao,Xs,Jv (g x) (W x)]
  have e3:=Xk hx h0
  rw [e2] at ih
  rw [e1]
  generalize D*c x*W x=q1 at ih ⊢
  generalize s*W x=q2 at ih e3
  generalize s*wb=q3 at e3 ⊢
  generalize W x*g x=q4 at ih ⊢
  omega
end
def iO:List Int->Int
 | []=>1
 | x::l=>(if 0 < x then x else 1)*iO l
theorem lT:∀ l:List Int,0 < iO l
 | []=>by decide
 | x::l=>Zz (by split <;> omega) (lT l)
theorem tU {x:Int} (hx:0 < x):∀ {l:List Int},x∈l->x ∣ iO l
 | y::l,h=>by
  rcases Qp.mp h with rfl | h
  ·exact ⟨iO l,by show (if 0 < x then x else 1)*iO l=_; rw [if_pos hx]⟩
  ·exact Int.dvd_trans (tU hx h) ⟨_,Jv ..⟩
theorem xJ:∀ {l:List Int},(∀ x∈l,x<=99)->iO l<=99^l.length
 | [],_=>by decide
 | x::l,h=>by
  have h1:=xJ (l:=l) fun y hy=>h y (Ql _ hy)
  have h2:=h x (Qg ..)
  have h3:(if 0 < x then x else 1)<=99:=by split <;> omega
  have h4:=lT l
  show (if 0 < x then x else 1)*iO l<=_
  rw [Jl,Int.pow_succ,Jv (99^_)]
  exact Yi h3 h1 (Jn h4) (by decide)
def Dn (wt:List Int):Int:=60*iO wt
def Wt (wt:List Int) (w:Int):Int:=wt.getD w.toNat 0
def gH (wt:List Int) (u:Nat->Int->Int) (h w:Int):Int:=Dn wt / (60*Wt wt w)*u w.toNat h
theorem lG (wt:List Int):0 < Dn wt:=Zz (by decide) (lT wt)
theorem rY {wt:List Int} {w:Int} (h:0 < Wt wt w):Wt wt w∈wt:=by
 unfold Wt at h ⊢
 rw [Qn] at h ⊢
 cases q:wt[w.toNat]? with
 | none=>rw [q] at h; exact absurd h (by decide)
 | some x=>exact Qh q
theorem xK {wt:List Int} {w:Int} (h:0 < Wt wt w):60*Wt wt w*(Dn wt / (60*Wt wt w))=Dn wt/\Wt wt w*(Dn wt / (60*Wt wt w))=iO wt:=by
 obtain ⟨k,hk⟩:=tU h (rY h)
 have e:Dn wt=60*Wt wt w*k:=by unfold Dn; rw [hk,Ji]
 have p:0 < 60*Wt wt w:=by omega
 have e2:Dn wt / (60*Wt wt w)=k:=by rw [e]; exact Int.mul_ediv_cancel_left _ (by omega)
 rw [e2]
 exact ⟨e.symm,hk.symm⟩
structure Plan (n m:Nat) (wt:List Int) (u:Nat->Int->Int) (ms:Int->List Int):Prop where
 unn:∀ w h,0<=u w h
 rows:∀ w,w < m->aD ((aO n).map (u w))=wt.getD w 0*60
 nd:∀ h:Int,0<=h->h < n->(ms h).Nodup
 mem:∀ h:Int,0<=h->h < n->∀ w:Int,w∈ms h↔0<=w/\w < m/\0 < u w.toNat h
 fall:∀ h:Int,0<=h->h < n->(ms h).Pairwise fun x y=>Wt wt y<=Wt wt x
 wnn:∀ x∈wt,0<=x
theorem tV {wt:List Int} (h:∀ x∈wt,0<=x) (w:Int):0<=Wt wt w:=by
 by_cases c:0 < Wt wt w
 ·omega
 ·unfold Wt at c ⊢
  rw [Qn] at c ⊢
  cases q:wt[w.toNat]? with
  | none=>exact Jw _
  | some x=>exact h x (Qh q)
theorem aCS {n m:Nat} {wt:List Int} {u:Nat->Int->Int} (unn:∀ w h,0<=u w h) (rows:∀ w,w < m->aD ((aO n).map (u w))=wt.getD w 0*60) {h w:Int} (h0:0<=h) (h1:h < n) (hw:w < m) (hu:0 < u w.toNat h) (hw0:0<=w):0 < Wt wt w:=by
 have a:=rows w.toNat (by omega)
 have b:=hJ (f:=u w.toNat) (l:=aO n) (y:=h) (fun x _=>unn _ x) (bE.mpr ⟨h0,h1⟩)
 rw [a] at b
 have c:Wt wt w=wt.getD w.toNat 0:=rfl
 omega
theorem aFj {wt:List Int} {u:Nat->Int->Int} (unn:∀ w h,0<=u w h) (wnn:∀ x∈wt,0<=x) (h w:Int):0<=gH wt u h w:=by
 have:=tV wnn w
 exact Zw (Zi (Jn (lG wt)) (by omega)) (unn _ _)
theorem aEA {n m:Nat} {wt:List Int} {u:Nat->Int->Int} (rows:∀ w,w < m->aD ((aO n).map (u w))=wt.getD w 0*60) {w:Int} (hw0:0<=w) (hw:w < m) (hp:0 < Wt wt w):aD ((aO n).map fun h=>gH wt u h w)=Dn wt:=by
 have e:aD ((aO n).map fun h=>gH wt u h w)=Dn wt / (60*Wt wt w)*aD ((aO n).map (u w.toNat)):=by
  rw [<- dX]; rfl
 rw [e,rows w.toNat (by omega)]
 show _*(Wt wt w*60)=_
 rw [<- (xK hp).1,Jv (Wt wt w) 60,(xK hp).1,Jv]
 exact (xK hp).1
theorem aGb {n m:Nat} {wt:List Int} {u:Nat->Int->Int} (unn:∀ w h,0<=u w h) (wnn:∀ x∈wt,0<=x) (rows:∀ w,w < m->aD ((aO n).map (u w))=wt.getD w 0*60) {h w:Int} (h0:0<=h) (h1:h < n) (hw0:0<=w) (hw:w < m) (hp:0 < Wt wt w):gH wt u h w<=Dn wt:=by
 rw [<- aEA rows hw0 hw hp]
 exact hJ (f:=fun h=>gH wt u h w) (fun x _=>aFj unn wnn x w) (bE.mpr ⟨h0,h1⟩)
theorem Plan.wpos {n m:Nat} {wt:List Int} {u:Nat->Int->Int} {ms:Int->List Int} (L:Plan n m wt u ms) {h w:Int} (h0:0<=h) (h1:h < n) (hw:w < m) (hu:0 < u w.toNat h) (hw0:0<=w):0 < Wt wt w:=aCS L.unn L.rows h0 h1 hw hu hw0
theorem Plan.gnn {n m:Nat} {wt:List Int} {u:Nat->Int->Int} {ms:Int->List Int} (L:Plan n m wt u ms) (h w:Int):0<=gH wt u h w:=aFj L.unn L.wnn h w
theorem Plan.gsum {n m:Nat} {wt:List Int} {u:Nat->Int->Int} {ms:Int->List Int} (L:Plan n m wt u ms) {w:Int} (hw0:0<=w) (hw:w < m) (hp:0 < Wt wt w):aD ((aO n).map fun h=>gH wt u h w)=Dn wt:=aEA L.rows hw0 hw hp
theorem Plan.gle {n m:Nat} {wt:List Int} {u:Nat->Int->Int} {ms:Int->List Int} (L:Plan n m wt u ms) {h w:Int} (h0:0<=h) (h1:h < n) (hw0:0<=w) (hw:w < m) (hp:0 < Wt wt w):gH wt u h w<=Dn wt:=aGb L.unn L.wnn L.rows h0 h1 hw0 hw hp
theorem Plan.msW {n m:Nat} {wt:List Int} {u:Nat->Int->Int} {ms:Int->List Int} (L:Plan n m wt u ms) {h w:Int} (h0:0<=h) (h1:h < n) (hw:w∈ms h):0<=w/\w < m/\0 < Wt wt w/\gH wt u h w<=Dn wt:=by
 obtain ⟨a,b,c⟩:=(L.mem h h0 h1 w).mp hw
 have d:=L.wpos h0 h1 b c a
 exact ⟨a,b,d,L.gle h0 h1 a b d⟩
theorem Plan.fits {n m:Nat} {wt:List Int} {u:Nat->Int->Int} {ms:Int->List Int} (L:Plan n m wt u ms) {h:Int} (h0:0<=h) (h1:h < n):0+aD ((ms h).map (gH wt u h))<=m*Dn wt:=by
 have a:aD ((ms h).map (gH wt u h))<=aD ((ms h).map fun _=>Dn wt):=cC fun x hx=>(L.msW h0 h1 hx).2.2.2
 rw [hU (c:=Dn wt) fun _ _=>rfl] at a
 have b:(ms h).length<=m:=hV m _ (L.nd h h0 h1) fun x hx=>by have:=L.msW h0 h1 hx; omega
 have c:=Jo (show ((ms h).length:Int)<=m by omega) (Jn (lG wt))
 omega
def plH (wt:List Int) (u:Nat->Int->Int) (ms:Int->List Int) (h w:Int):List Int:=plc (Dn wt) (gH wt u h) 0 (ms h) w
def tkH (n m:Nat) (wt:List Int) (u:Nat->Int->Int) (ms:Int->List Int) (w:Int):List Int:=(aO n).flatMap fun h=>(plH wt u ms h w).map fun p=>h*m+p
theorem xL (f:Int->Int) (m:Nat):∀ n:Nat,aD ((aO (n*m)).map f)=aD ((aO n).map fun h=>aD ((aO m).map fun p=>f (h*m+p)))
 | 0=>by rw [Nat.zero_mul]; rfl
 | n+1=>by
  rw [gL n,Qt,cH,<- xL f m n]
  have key:∀ k:Nat,aD ((aO (n*m+k)).map f)=aD ((aO (n*m)).map f)+aD ((aO k).map fun p=>f (n*m+p)):=fun k=>by
   induction k with
   | zero=>show _=_+0; rw [Zp]; rfl
   | succ k ih =>
    rw [<- Nat.add_assoc,gL,gL,Qt,Qt,cH,cH,ih]
    have:((n*m+k:Nat):Int)=(n:Int)*m+k:=by rw [Yq,Ys]
    show _+_+(f _+0)=_+(_+(f _+0))
    rw [this]
    omega
  rw [Qai,key m]
  show _=_+(_+0)
  rw [Zp]
theorem xM {h p:Int} {m:Nat} (h0:0<=p) (h1:p < m):(h*m+p) / m=h:=by
 rw [Int.add_comm,Int.add_mul_ediv_right _ _ (by omega),Int.ediv_eq_zero_of_lt h0 h1,Xo]
theorem aAv {n m:Nat} {h p:Int} (h0:0<=h) (h1:h < n) (p0:0<=p) (p1:p < m):0<=h*m+p/\h*m+p < ((n*m:Nat):Int):=by
 have a:=Zw h0 (show (0:Int)<=m by omega)
 have b:=Jo (show h<=(n:Int) - 1 by omega) (show (0:Int)<=m by omega)
 rw [Qao] at b
 rw [Ys]
 omega
theorem Plan.place {n m:Nat} {wt:List Int} {u:Nat->Int->Int} {ms:Int->List Int} (L:Plan n m wt u ms) {h w p:Int} (h0:0<=h) (h1:h < n) (hp:p∈plH wt u ms h w):w∈ms h/\0<=p/\p < m:=by
 have a:=zC hp
 have b:=vG (lG wt) (Jw 0) (fun x _=>L.gnn h x) hp (ms h).length (by rw [Js]; exact a)
 rw [Js] at b
 have c:=aAr (lG wt) (L.fits h0 h1)
 exact ⟨a,b.1,by omega⟩
theorem Plan.taker {n m:Nat} {wt:List Int} {u:Nat->Int->Int} {ms:Int->List Int} (L:Plan n m wt u ms) {w r:Int} (hr:r∈tkH n m wt u ms w):∃ h p:Int,0<=h/\h < n/\p∈plH wt u ms h w/\r=h*m+p/\r / m=h/\0<=r/\r < ((n*m:Nat):Int):=by
 obtain ⟨h,hh,hr⟩:=List.mem_flatMap.mp hr
 obtain ⟨p,hp,rfl⟩:=Jd.mp hr
 obtain ⟨h0,h1⟩:=bE.mp hh
 obtain ⟨_,p0,p1⟩:=L.place h0 h1 hp
 have:=aAv h0 h1 p0 p1
 exact ⟨h,p,h0,h1,hp,rfl,xM p0 p1,this.1,this.2⟩
theorem Plan.hall {n m:Nat} {wt:List Int} {u:Nat->Int->Int} {ms:Int->List Int} (L:Plan n m wt u ms):rC (n*m) ((List.range m).map fun (w:Nat)=>tkH n m wt u ms w) (fun w=>min (wt.getD w 0) 1) (fun _=>1):=fun R=>by
 have hD:=lG wt
 rw [Qa,Jp]
 have e0:aD ((List.range m).map fun w=>if (iT ((List.range m).map fun (w:Nat)=>tkH n m wt u ms w) w).all R=true then min (wt.getD w 0) 1 else 0)=aD ((aO m).map fun w=>if (tkH n m wt u ms w).all R=true then min (Wt wt w) 1 else 0):=by
  unfold aO
  rw [Xy]
  refine aS fun w hw=>?_
  have hw':=Jt.mp hw
  have e:iT ((List.range m).map fun (w:Nat)=>tkH n m wt u ms w) w=tkH n m wt u ms w:=by
   unfold iT
   rw [Qn,Qe,Xj hw']; rfl
  rw [e]
  rfl
 rw [e0,xL]
 refine Wa (a:=Dn wt) ?_ hD
 rw [<- dX,<- dX]
 -- each work lies in its places
 have a:aD ((aO m).map fun w=>Dn wt*(if (tkH n m wt u ms w).all R=true then min (Wt wt w) 1 else 0))<=aD ((aO m).map fun w=>aD ((aO n).map fun h=>aD ((aO m).map fun p=>if R (h*m+p)=true then ovL (Dn wt) (gH wt u h) 0 (ms h) w p else 0))):=by
  refine cC fun w hw=>?_
  obtain ⟨w0,w1⟩:=bE.mp hw
  have nn:0<=aD ((aO n).map fun h=>aD ((aO m).map fun p=>if R (h*m+p)=true then ovL (Dn wt) (gH wt u h) 0 (ms h) w p else 0)):=eU fun h _=>eU fun p _=>by
   have:=aEz (D:=Dn wt) (ms:=ms h) (F:=0) (fun x _=>L.gnn h x) w p
   split <;> omega
  by_cases c:(tkH n m wt u ms w).all R=true
  ·rw [if_pos c]
   have hwn:=tV L.wnn w
   by_cases c2:0 < Wt wt w
   ·rw [show min (Wt wt w) 1=1 by omega,Xz]
    refine Ya (Int.le_of_eq (L.gsum w0 w1 c2).symm) ?_
    refine cC fun h hh=>?_
    obtain ⟨h0,h1⟩:=bE.mp hh
    have e1:=aAt (m:=m) hD (w:=w) (L.nd h h0 h1) (fun x _=>L.gnn h x) (Jw 0) (L.fits h0 h1)
    have e2:gH wt u h w<=if w∈ms h then gH wt u h w else 0:=by
     by_cases c3:w∈ms h
     ·rw [if_pos c3]; exact Jw _
     ·rw [if_neg c3]
      have:¬ 0 < u w.toNat h:=fun z=>c3 ((L.mem h h0 h1 w).mpr ⟨w0,w1,z⟩)
      have z:=L.unn w.toNat h
      show _*u w.toNat h<=0
      rw [show u w.toNat h=0 by omega,Yl]; exact Jw _
    refine Ya e2 (Int.le_of_eq ?_)
    rw [<- e1]
    refine aS fun p hp=>?_
    by_cases c4:p∈plH wt u ms h w
    ·rw [if_pos (Jb.mp c _ (List.mem_flatMap.mpr ⟨h,hh,Jd.mpr ⟨p,c4,rfl⟩⟩))]
    ·have z:ovL (Dn wt) (gH wt u h) 0 (ms h) w p=0:=aAu hD (L.nd h h0 h1) (fun x _=>L.gnn h x) c4
     rw [z]; split <;> rfl
   ·rw [show min (Wt wt w) 1=0 by omega,Yl]; exact nn
  ·rw [if_neg c,Yl]; exact nn
 refine Ya a ?_
 rw [jE]
 refine cC fun h hh=>?_
 obtain ⟨h0,h1⟩:=bE.mp hh
 rw [jE,<- dX]
 refine cC fun p hp=>?_
 by_cases c:R (h*m+p)=true
 ·rw [if_pos c,Xz]
  have e:aD ((aO m).map fun w=>if R (h*m+p)=true then ovL (Dn wt) (gH wt u h) 0 (ms h) w p else 0)=aD ((aO m).map fun w=>ovL (Dn wt) (gH wt u h) 0 (ms h) w p):=aS fun w _=>by rw [if_pos c]
  rw [e,aAs fun x hx=>⟨(L.msW h0 h1 hx).1,(L.msW h0 h1 hx).2.1⟩]
  have b1:=aFh (x:=0+aD ((ms h).map (gH wt u h))) (p:=p) hD
  have b2:=aFi (D:=Dn wt) (x:=0) (p:=p)
  omega
 ·rw [if_neg c,Yl,bL fun w _=>if_neg c]; exact Jw _
theorem vH {f:Int->Int} {m:Nat} {l:List Int} (nd:l.Nodup) (sub:∀ x∈l,0<=x/\x < m):aD (l.map f)=aD ((aO m).map fun w=>if w∈l then f w else 0):=by
 have e1:aD (l.map f)=aD (l.map fun x=>aD ((aO m).map fun w=>if w=x then f x else 0)):=aS fun x hx=>(iH (f x) x (jS m) (bE.mpr (sub x hx))).symm
 rw [e1,jE]
 refine aS fun w hw=>?_
 have e2:aD (l.map fun x=>if w=x then f x else 0)=aD (l.map fun x=>if x=w then f w else 0):=aS fun x _=>by
  by_cases c:w=x
  ·rw [if_pos c,if_pos c.symm,c]
  ·rw [if_neg c,if_neg (Ne.symm c)]
 rw [e2]
 by_cases c:w∈l
 ·rw [if_pos c,iH _ w nd c]
 ·rw [if_neg c]
  exact bL fun x hx=>if_neg fun (z:x=w)=>c (z ▸ hx)
theorem tW {C:Int} (hC:0<=C):∀ m:Nat,aD ((aO m).map fun p=>if p < C then (1:Int) else 0)<=min (m:Int) C
 | 0=>by show (0:Int)<=min ((0:Nat):Int) C; omega
 | m+1=>by
  have ih:=tW hC m
  rw [gL,Qt,cH]
  show _+((if (m:Int) < C then (1:Int) else 0)+0)<=_
  split <;> omega
def mJ (m:Nat) (hl:Nat->Int->Int) (h w:Int):Int:=aD ((aO m).map fun p=>hl w.toNat (h*m+p))
theorem zD {n m:Nat} {wt:List Int} {u:Nat->Int->Int} {ms:Int->List Int} {w:Nat} (hw:w < m):iT ((List.range m).map fun (w:Nat)=>tkH n m wt u ms w) w=tkH n m wt u ms w:=by
 unfold iT
 rw [Qn,Qe,Xj hw]; rfl
theorem Plan.bound {n m:Nat} {wt:List Int} {u:Nat->Int->Int} {ms:Int->List Int} (L:Plan n m wt u ms) {hl:Nat->Int->Int} (S:Sprd (n*m) ((List.range m).map fun (w:Nat)=>tkH n m wt u ms w) (fun w=>min (wt.getD w 0) 1) (fun _=>1) hl) {most h:Int} (hm:∀ w,Wt wt w<=most) (hm0:0 < most) (h0:0<=h) (h1:h < n) :
  60*aD ((aO m).map fun w=>Wt wt w*mJ m hl h w) < 60*most+aD ((aO m).map fun w=>u w.toNat h):=by
 have hD:=lG wt
 have hpr:=lT wt
 have hlen:((List.range m).map fun (w:Nat)=>tkH n m wt u ms w).length=m:=by rw [Qa,Jp]
 -- where something lies
 have sup:∀ w p:Int,0<=w->w < m->0<=p->p < m->0 < hl w.toNat (h*m+p)->p∈plH wt u ms h w:=fun w p w0 w1 p0 p1 hp=>by
  have a:=S.sup w.toNat _ (by rw [hlen]; omega) hp
  rw [zD (by omega),show ((w.toNat:Nat):Int)=w by omega] at a
  obtain ⟨h',p',a0,a1,a2,a3,a4,_⟩:=L.taker a
  have e1:h'=h:=by rw [<- a4]; exact xM p0 p1
  subst e1
  have:p=p':=by omega
  rw [this]; exact a2
 have msub:∀ x∈ms h,0<=x/\x < (m:Int):=fun x hx=>⟨(L.msW h0 h1 hx).1,(L.msW h0 h1 hx).2.1⟩
 have e1:aD ((aO m).map fun w=>Wt wt w*mJ m hl h w)=aD ((ms h).map fun w=>Wt wt w*mJ m hl h w):=by
  rw [vH (L.nd h h0 h1) msub]
  refine aS fun w hw=>?_
  obtain ⟨w0,w1⟩:=bE.mp hw
  by_cases c:w∈ms h
  ·rw [if_pos c]
  ·rw [if_neg c]
   have:mJ m hl h w=0:=bL fun p hp=>by
    obtain ⟨p0,p1⟩:=bE.mp hp
    have z:=S.nn w.toNat (h*m+p)
    by_cases q:0 < hl w.toNat (h*m+p)
    ·exact absurd (L.place h0 h1 (sup w p w0 w1 p0 p1 q)).1 c
    ·omega
   rw [this,Yl]
 have ab:=aGa (D:=Dn wt) (g:=gH wt u h) (W:=Wt wt) (c:=mJ m hl h) (ms:=ms h) (s:=Dn wt - 1) (wb:=most) (L.fall h h0 h1) (fun x _=>hm x) (fun x _=>tV L.wnn x) (Jn hm0) fun k=>by
  have tnd:((ms h).take k).Nodup:=(Wd k _).nodup (L.nd h h0 h1)
  have tmem:∀ x∈(ms h).take k,x∈ms h:=fun x hx=>Ze hx
  have gs:0<=aD (((ms h).take k).map (gH wt u h)):=eU fun x _=>L.gnn h x
  generalize hG:aD (((ms h).take k).map (gH wt u h))=G at gs
  have c1:=aEy (x:=0+G) hD
  have c0:0<=cl (Dn wt) (0+G):=Zi (by omega) (Jn hD)
  have key:aD (((ms h).take k).map (mJ m hl h))<=cl (Dn wt) (0+G):=by
   have a1:aD (((ms h).take k).map (mJ m hl h))<=aD (((ms h).take k).map fun w=>aD ((aO m).map fun p=>if p < cl (Dn wt) (0+G) then hl w.toNat (h*m+p) else 0)):=by
    refine cC fun w hw=>cC fun p hp=>?_
    obtain ⟨p0,p1⟩:=bE.mp hp
    obtain ⟨w0,w1⟩:=msub w (tmem w hw)
    by_cases c:p < cl (Dn wt) (0+G)
    ·rw [if_pos c]; exact Jw _
    ·rw [if_neg c]
     by_cases q:0 < hl w.toNat (h*m+p)
     ·have:=(vG hD (Jw 0) (fun x _=>L.gnn h x) (sup w p w0 w1 p0 p1 q) k hw).2
      rw [hG] at this
      exact absurd this c
     ·omega
   refine Ya a1 ?_
   rw [jE]
   have a2:aD ((aO m).map fun p=>aD (((ms h).take k).map fun w=>if p < cl (Dn wt) (0+G) then hl w.toNat (h*m+p) else 0))<=aD ((aO m).map fun p=>if p < cl (Dn wt) (0+G) then (1:Int) else 0):=by
    refine cC fun p hp=>?_
    obtain ⟨p0,p1⟩:=bE.mp hp
    by_cases c:p < cl (Dn wt) (0+G)
    ·rw [if_pos c]
     have b1:aD (((ms h).take k).map fun w=>if p < cl (Dn wt) (0+G) then hl w.toNat (h*m+p) else 0)=aD (((ms h).take k).map fun w=>hl w.toNat (h*m+p)):=aS fun w _=>by rw [if_pos c]
     rw [b1,vH tnd fun x hx=>msub x (tmem x hx)]
     have gl:=aAv h0 h1 p0 p1
     have b2:=S.cols (h*m+p) gl.1 gl.2
     rw [hlen] at b2
     refine Ya ?_ b2
     unfold gM aO
     rw [Xy]
     refine cC fun w _=>?_
     have z:=S.nn w (h*m+p)
     show (if ((w:Nat):Int)∈(ms h).take k then hl ((w:Nat):Int).toNat (h*m+p) else 0)<=hl w (h*m+p)
     rw [show ((w:Nat):Int).toNat=w by omega]
     split <;> omega
    ·rw [if_neg c,bL fun w _=>if_neg c]; exact Jw _
   have a3:=tW c0 m
   omega
  have e2:aD (((ms h).take k).map fun x=>gH wt u h x - Dn wt*mJ m hl h x)+Dn wt*aD (((ms h).take k).map (mJ m hl h))=G:=by
   rw [<- hG,<- dX,<- cS]
   exact aS fun x _=>by omega
  have e3:=Xk key (Jn hD)
  rw [Jv (Dn wt) (cl (Dn wt) (0+G))] at e3
  omega
 have e4:aD ((ms h).map fun x=>Wt wt x*gH wt u h x)<=iO wt*aD ((aO m).map fun w=>u w.toNat h):=by
  have b1:aD ((ms h).map fun x=>Wt wt x*gH wt u h x)=iO wt*aD ((ms h).map fun x=>u x.toNat h):=by
   rw [<- dX]
   refine aS fun x hx=>?_
   obtain ⟨_,_,a,_⟩:=L.msW h0 h1 hx
   show Wt wt x*(Dn wt / (60*Wt wt x)*u x.toNat h)=_
   rw [<- Ji,(xK a).2]
  rw [b1,vH (L.nd h h0 h1) msub]
  refine Xk (cC fun w _=>?_) (Jn hpr)
  have z:=L.unn w.toNat h
  split <;> omega
 rw [e1]
 generalize aD ((ms h).map fun w=>Wt wt w*mJ m hl h w)=A at ab ⊢
 generalize aD ((aO m).map fun w=>u w.toNat h)=rm at e4 ⊢
 by_cases c:60*A < 60*most+rm
 ·exact c
 ·exfalso
  have k1:=Xk (show 60*most+rm<=60*A by omega) (Jn hpr)
  rw [Zy,<- Ji,<- Ji,Jv (iO wt) 60] at k1
  rw [Qao] at ab
  have e5:Dn wt=60*iO wt:=rfl
  rw [e5] at ab
  generalize iO wt*rm=q1 at e4 k1
  generalize 60*iO wt*A=q2 at ab k1
  generalize 60*iO wt*most=q3 at ab k1
  omega
theorem aD5 (a:Int) {b:Int} (hb:0 < b):bP a b / bI a b=a / b:=by
 have h1:=rG a hb
 have h2:=rH a hb
 conv=>rhs; rw [<- h1]
 conv=>rhs; arg 2; rw [<- h2]
 exact (Zl _ _ (iS (a:=a) hb)).symm
theorem aFk (a:Int) {b:Int} (hb:0 < b):(bP a b+bI a b - 1) / bI a b=cl b a:=by
 have h1:=rG a hb
 have h2:=rH a hb
 have hg:=iS (a:=a) hb
 have hB:=eE a hb
 show cl (bI a b) (bP a b)=cl b a
 refine Int.le_antisymm (aAr hB ?_) (aAr hb ?_)
 ·have:=aCQ (x:=a) hb
  have e:(Int.gcd a b:Int)*bP a b<=(Int.gcd a b:Int)*(cl b a*bI a b):=by
   rw [h1,Int.mul_left_comm,h2]; exact this
  exact Wa e hg
 ·have:=Xk (aCQ (x:=bP a b) hB) (Jn hg)
  rw [h1,Int.mul_left_comm,h2] at this
  exact this
theorem tX {wt:List Int} {u:Nat->Int->Int} {h w:Int} (hp:0 < Wt wt w):bP (bP (u w.toNat h) 60) (bI (u w.toNat h) 60*Wt wt w)=bP (gH wt u h w) (Dn wt)/\bI (bP (u w.toNat h) 60) (bI (u w.toNat h) 60*Wt wt w)=bI (gH wt u h w) (Dn wt):=by
 have c:=kC (u w.toNat h) (show (0:Int) < 60 by decide)
 have d:=(xK hp).1
 refine yR (Zz (eE _ (by decide)) hp) (lG wt) ?_
 unfold gH
 generalize Dn wt / (60*Wt wt w)=k at d ⊢
 rw [<- d]
 generalize bP (u w.toNat h) 60=A at c ⊢
 generalize bI (u w.toNat h) 60=B at c ⊢
 calc A*(60*Wt wt w*k)=A*60*(Wt wt w*k):=by rw [Ji 60,<- Ji A]
  _=u w.toNat h*B*(Wt wt w*k):=by rw [c]
  _=k*u w.toNat h*(B*Wt wt w):=by
   rw [Jv (Wt wt w) k,Ji,<- Ji B,Jv B k,Ji k,<- Ji,Jv (u w.toNat h) k]
theorem xN (F g:Int) {D:Int} (hD:0 < D):bP (bP F D*bI g D+bP g D*bI F D) (bI F D*bI g D)=bP (F+g) D/\bI (bP F D*bI g D+bP g D*bI F D) (bI F D*bI g D)=bI (F+g) D :=
 aDM _ _ (eE F hD) (eE g hD) hD (kC F hD) (kC g hD)
def zE:Str:=("places_of" : Str) ++ ".<locals>." ++ "<lambda>"
def vI (H:Hp) (dp:Addr) (f:Int->List Int) (ms:List Int):Prop:=∃ kvs:List (Key×V),H dp=some (.dK kvs)/\kvs.length<=ms.length/\∀ w:Int,(w∈ms->∃ q,bK kvs (.inl w)=some (.ref q)/\H q=some (.lst ((f w).map V.int)))/\(w∉ms->bK kvs (.inl w)=none)
theorem vI.same {H H':Hp} {dp:Addr} {f:Int->List Int} {ms:List Int} (h:vI H dp f ms) (s:aE H H'):vI H' dp f ms:=by
 obtain ⟨kvs,h1,h2,h3⟩:=h
 exact ⟨kvs,s _ _ h1,h2,fun w=>⟨fun hw=>let ⟨q,a,b⟩:=(h3 w).1 hw; ⟨q,a,s _ _ b⟩,(h3 w).2⟩⟩
def jT (u:Nat->Int->Int) (h:Int) (i:Nat):List Int:=(aO i).filter fun w=>decide (0 < u w.toNat h)
theorem zF (u:Nat->Int->Int) (h:Int) (i:Nat):jT u h (i+1)=jT u h i++if decide (0 < u i h)=true then [(i:Int)] else []:=by
 unfold jT
 rw [gL,Xu,Qx]
 rfl
theorem tY (u:Nat->Int->Int) (h:Int) (i:Nat):(jT u h i).length<=i:=by
 have:=Je (fun w:Int=>decide (0 < u w.toNat h)) (aO i)
 rw [bH] at this
 exact this
theorem oG {u:Nat->Int->Int} {h:Int} {i:Nat} {w:Int}:w∈jT u h i↔0<=w/\w < i/\0 < u w.toNat h:=by
 unfold jT
 rw [Qy,bE,decide_eq_true_iff,and_assoc]
theorem aD6 {wt:List Int} (hl:wt.length<=12) (h:∀ x∈wt,x<=99):Dn wt<=60*99^12:=by
 have a:=xJ h
 have b:(99:Int)^wt.length<=99^12:=by
  have:((99:Nat)^wt.length:Nat)<=99^12:=Zf (by decide) hl
  exact_mod_cast this
 have c:=Ya a b
 unfold Dn
 omega
theorem aCT {D:Int} {g:Int->Int} {w:Int}:∀ {ms:List Int} {F:Int} {i:Nat},ms.Nodup->ms[i]?=some w->plc D g F ms w=nH ((F+aD ((ms.take i).map g)) / D) (cl D (F+aD ((ms.take i).map g)+g w))
 | [],_,_,_,h=>by cases h
 | x::ms,F,0,_,h=>by
  have e:x=w:=Option.some.inj h
  show (if w=x then nH (F / D) (cl D (F+g x)) else plc D g (F+g x) ms w)=nH ((F+0) / D) (cl D (F+0+g w))
  rw [if_pos e.symm,Zp,e]
 | x::ms,F,i+1,nd,h=>by
  have hm:ms[i]?=some w:=by simpa using h
  have ne:¬ w=x:=fun z=>(Xa.mp nd).1 (z ▸ Qh hm)
  show (if w=x then nH (F / D) (cl D (F+g x)) else plc D g (F+g x) ms w)=_
  rw [if_neg ne,aCT (Xa.mp nd).2 hm]
  show _=nH ((F+(g x+aD ((ms.take i).map g))) / D) (cl D (F+(g x+aD ((ms.take i).map g))+g w))
  rw [<- Qag]
theorem nI {xs:List V} {h:Int} {v:V} (h0:0<=h) (e:xs[h.toNat]?=some v):atI xs h=some v:=by
 have:=cL (xs:=xs) (j:=h.toNat) e
 rwa [show ((h.toNat:Nat):Int)=h by omega] at this
theorem xO {K:PySem.W.Frag} {H:Hp} {n m:Nat} {u:Nat->Int->Int} {zs:List V} (hden:aR K H ((List.range m).map fun w=>shD n (u w)) zs) {i:Nat} (hi:i < m) {x:V} (hx:zs[i]?=some x) {h:Int} (h0:0<=h) (h1:h < n) :
  ∃ a xs p,x=.ref a/\SqT K H a xs/\atI xs h=some (.ref p)/\SqT K H p [.int (bP (u i h) 60),.int (bI (u i h) 60)]:=by
 obtain ⟨d,hd,den⟩:=iV hden hx
 rw [Qe,Xj hi] at hd
 have e:shD n (u i)=d:=Option.some.inj hd
 rw [<- e] at den
 obtain ⟨a,xs,rfl,ha,hxs⟩:=bJ.mp den
 have hl:=aM hxs
 rw [Qa,Qa,bH] at hl
 have hv:xs[h.toNat]?=some (xs[h.toNat]'(by omega)):=Qb (by omega)
 generalize xs[h.toNat]'(by omega)=v at hv
 obtain ⟨y,hy,hyd⟩:=cE hxs hv
 rw [Qe,gD (by omega)] at hy
 have e2:bM (u i ((h.toNat:Nat):Int),60)=y:=Option.some.inj hy
 rw [show ((h.toNat:Nat):Int)=h by omega] at e2
 rw [<- e2] at hyd
 obtain ⟨p,rfl,hp⟩:=dU.mp hyd
 exact ⟨a,xs,p,rfl,ha,nI h0 hv,hp⟩
section
variable {P:Program} {w:World} {K:PySem.W.Frag} {mg:Str->Option Value} {base:Heap}
def rZ (K:PySem.W.Frag) (Pt:Addr):Sp:=fun vs H Q _=>∃ (h:Int) (wp sp:Addr) (n m:Nat) (wt:List Int) (u:Nat->Int->Int) (zs:List V),vs = [.int h,.ref wp,.ref sp]/\SqT K H wp (wt.map V.int)/\wt.length=m/\m<=12/\n<=6/\(∀ x∈wt,0<=x/\x<=99)/\SqL K H sp zs/\aR K H ((List.range m).map fun w=>shD n (u w)) zs/\0<=h/\h < n/\(∀ w h,0<=u w h)/\(∀ w,w < m->aD ((aO n).map (u w))=wt.getD w 0*60)/\H Pt=some (.tab zE) /\
 ∀ dp ms H',aE H H'->H dp=none->ms.Perm (jT u h m)->ms.Pairwise (fun x y=>Wt wt y<=Wt wt x)->vI H' dp (plc (Dn wt) (gH wt u h) 0 ms) ms->Q (.ref dp) H'
theorem gT:FnScope ["hand", "weights", "shares", "works", "told", "filled", "work", "a", "b", "behind"] ["hand", "weights", "shares"] (aH mW):=⟨rfl,rfl,rfl,by decide +kernel,rfl,by decide +kernel,by decide +kernel⟩
theorem aBn {f c Pt fP fL:Addr} {fd dP dL:FuncData} (G:Fn K mg "places_of" mW ["hand", "weights", "shares"] f fd) (hc:fd.code=.ref c) (Z:Lm K mg base c Pt) (B:Bl mg) (GP:Fn K mg "plus" zZ ["one", "other"] fP dP) (OP:FnOk P w K mg base CX0 3 fP dP ["one", "other"] (yS K)) (GL:Fn K mg "lowest" kL ["a", "b"] fL dL) (OL:FnOk P w K mg base CX0 2 fL dL ["a", "b"] gR):FnOk P w K mg base CX0 4 f fd ["hand", "weights", "shares"] (rZ K Pt):=by
 refine G.fn.okC hc gT (fun vs H Q E h=>?_) (fun A outer s H vs Q E hr h=>?_)
 ·obtain ⟨h,wp,sp,n,m,wt,u,zs,rfl,_⟩:=h
  rfl
 ·obtain ⟨h,wp,sp,n,m,wt,u,zs,rfl,hwp,hwl,hm,hn,hwt,hsp,hden,h0,h1,unn,rows,hT,k⟩:=h
  have r3:Room 3 _:=hr
  have r2:Room 2 _:=hr.mono (by decide)
  refine ⟨_,(aF (eP (i:=3) (own:=["work", "row"]) (fr:=[0]) (frn:=["hand"]) (aX (aH mW) ["hand", "weights", "shares", "works", "told", "filled", "work", "a", "b", "behind"] rfl rfl (by decide +kernel)) rfl gT.nd rfl rfl rfl (uD .l rfl B.enumerate (aA (pv 2) aC))
    (fun _ _ _ _=>(kN (K:=K) (n:=2) rfl rfl (aW (aL (i:=0) (show (["work", "row", "hand"]:List Str).Nodup by decide +kernel) rfl (Or.inl rfl)) (aW (aL (i:=1) (show (["work", "row", "hand"]:List Str).Nodup by decide +kernel) rfl (Or.inl rfl)) dF)))) (fun _ _ _ _=>kH (bO lV (aV (gQ (K:=K) rfl) (aV (gQ (K:=K) rfl) (pv 1) (pv 2) (fun _ _=>rfl)) aI (fun _ _=>rfl)) aI (cG _)))
    (fun _ _ _ _=>(pv 0)))
  (aF (aT (i:=4) gT.nd rfl (Or.inl rfl) wJ)
  (aF (aT (i:=5) gT.nd rfl (Or.inl rfl) (cU (aA aI (aA aI aC))))
  (aF (eJ PassesOwn.never rfl (cY (yK 1 rfl r2 rfl B.sorted Z rfl (q:=zE) rfl (pv 3) rfl rfl)) (aL (i:=6) gT.nd rfl (Or.inl rfl))
   (aF (kW (aV bB (aV dG (pv 2) (pv 6) (fun _ _=>rfl)) (pv 0) (fun _ _=>rfl)) (iX rfl (aW (aL (i:=7) gT.nd rfl (Or.inl rfl)) (aW (aL (i:=8) gT.nd rfl (Or.inl rfl)) dF))))
  (aF (aT (i:=9) gT.nd rfl (Or.inl rfl) (bF GP OP r3 rfl (aA (pv 5) (aA (bF GL OL r2 rfl (aA (pv 7) (aA (aZ dQ (pv 8) (aV bB (pv 1) (pv 6) (fun _ _=>rfl))) aC))) aC))))
  (aF (oY (jL hr) (pv 4) (pv 6) (dY (qL rfl) rfl B.list aCd (aA (dY uI rfl B.range zY (aA (aZ iI (aV bB (pv 5) aI (fun _ _=>rfl)) (aV bB (pv 5) aI (fun _ _=>rfl))) (aA (aZ iI (aZ xV (aZ gN (aV bB (pv 9) aI (fun _ _=>rfl)) (aV bB (pv 9) aI (fun _ _=>rfl))) aI) (aV bB (pv 9) aI (fun _ _=>rfl))) aC))) aC)) rfl)
  (aJ (aT (i:=5) gT.nd rfl (Or.inl rfl) (pv 9)))))))
  (aJ (aY (pv 4))))))),?_⟩
  have hzl:=aM hden
  rw [Qa,Jp] at hzl
  refine ⟨_,rfl,sp,_,rfl,hsp,lM (J:=Ite K .l sp) m (bR (by omega)) (fun σ=>∃ a b,σ = [a,b,some (.int h)]) (fun i ys H2=>i<=m/\ys=(jT u h i).map V.int/\aE H H2) ⟨none,none,rfl⟩ ⟨Jj _,rfl,aE.refl H⟩ ?_ ?_ ?_ ?_ ?_⟩
  ·rintro i ys H2 ⟨_,rfl,_⟩
   rw [Qa]; exact tY u h i
  ·rintro ys H2 ⟨_,rfl,s2⟩
   exact ⟨zs,s2.seqL hsp,hzl⟩
  ·rintro i ys H2 hi ⟨_,rfl,s2⟩
   exact ⟨zs,zs[i],s2.seqL hsp,Qb (by omega)⟩
  ·rintro i ys σ x H2 H3 hi ⟨a,b,rfl⟩ ⟨_,rfl,s2⟩ hy hz
   obtain ⟨p,hp,rfl,hy⟩:=hy
   obtain ⟨x,hx,rfl⟩:=hy zs (s2.seqL hsp)
   obtain ⟨a2,xs,q,rfl,ha2,hat,hq⟩:=xO hden hi hx h0 h1
   have sp2:=aE.new (o:=.tup [.int (i:Nat),.ref a2]) hp
   have s23:=s2.trans sp2
   refine ⟨p,_,rfl,SqT.of aB,rfl,_,_,rfl,_,_,rfl,rfl,?_⟩
   refine ⟨_,rfl,_,rfl,a2,xs,h,.ref q,rfl,rfl,s23.seqT ha2,hat,q,_,0,_,rfl,rfl,s23.seqT hq,rfl,_,_,rfl,rfl,_,rfl,?_⟩
   rw [zF]
   have hpos:=aCv (a:=u i h) (show (0:Int) < 60 by decide)
   refine gW (fun c=>?_) (fun c=>?_)
   ·rw [if_pos (decide_eq_true (hpos.mp (of_decide_eq_true c))),Qt]
    exact ⟨_,rfl,hz,⟨_,_,rfl⟩,hi,rfl,s23⟩
   ·rw [if_neg (fun z=>c (decide_eq_true (hpos.mpr (of_decide_eq_true z)))),Xh]
    exact ⟨⟨_,_,rfl⟩,hi,rfl,s23⟩
  ·rintro ys H2 ⟨_,rfl,s2⟩ wk hwk
   have s3:=s2.trans (aE.new (o:=.lst ((jT u h m).map V.int)) hwk)
   have e3:upd H2 wk (.lst ((jT u h m).map V.int)) wk=_:=aB
   generalize upd H2 wk (.lst ((jT u h m).map V.int))=H3 at s3 e3 ⊢
   dsimp only [bN]
   refine fun dp hdp=>?_
   dsimp only [bN]
   have hdp0:H dp=none:=s3.free hdp
   refine ⟨sz2 _ _,fun fp hfp=>?_⟩
   have s34:=aE.new (o:=.dK []) hdp
   have ed4:upd H3 dp (.dK []) dp=some (.dK []):=aB
   generalize upd H3 dp (.dK [])=H4 at s34 ed4 hfp ⊢
   have s45:=aE.new (o:=.tup [.int 0,.int 1]) hfp
   have ef5:upd H4 fp (.tup [.int 0,.int 1]) fp=some (.tup [.int 0,.int 1]):=aB
   have s05:=(s3.trans s34).trans s45
   have ed5:=s45 _ _ ed4
   have ew5:=(s34.trans s45) _ _ e3
   generalize upd H4 fp (.tup [.int 0,.int 1])=H5 at s45 ef5 s05 ed5 ew5 ⊢
   dsimp only [bN]
   have hwl':=tY u h m
   refine ⟨_,rfl,wk,jT u h m,Wt wt,.ref wp,rfl,SqL.of ew5,by omega,s05 _ _ hT,rfl,fun w hw=>?_,fun mq ms H6 s6 hmq hpm hpw=>?_⟩
   ·obtain ⟨w0,w1,_⟩:=oG.mp hw
    refine ⟨w0,by omega,wp,_,rfl,.inl (s05.seqT hwp),?_⟩
    unfold Wt
    rw [Qe,Qn,Qb (show w.toNat < wt.length by omega)]; rfl
   have s67:=aE.new (o:=.lst (ms.map V.int)) hmq
   have em7:upd H6 mq (.lst (ms.map V.int)) mq=some (.lst (ms.map V.int)):=aB
   have s07:=(s05.trans s6).trans s67
   have ed7:=(s6.trans s67) _ _ ed5
   have ef7:=(s6.trans s67) _ _ ef5
   have nmd:mq≠dp:=fun z=>by rw [z,s6 _ _ ed5] at hmq; cases hmq
   generalize upd H6 mq (.lst (ms.map V.int))=H7 at s67 em7 s07 ed7 ef7 ⊢
   have hD:=lG wt
   have hDf:=aD6 (wt:=wt) (by omega) fun x hx=>(hwt x hx).2
   have mnd:ms.Nodup:=hpm.nodup_iff.mpr ((jS m).filter _)
   have mmem:∀ x∈ms,0<=x/\x < (m:Int)/\0 < u x.toNat h:=fun x hx=>oG.mp (hpm.mem_iff.mp hx)
   refine ⟨mq,rfl,⟨_,SqL.of em7⟩,iY (K:=K) (a:=mq) (xs:=ms.map V.int) (fun i σ H8=>∃ v6 v7 v8 v9 fp,σ = [some (.int h),some (.ref wp),some (.ref sp),some (.ref wk),some (.ref dp),some (.ref fp),v6,v7,v8,v9]/\aE H H8/\H8 mq=some (.lst (ms.map V.int))/\vI H8 dp (plc (Dn wt) (gH wt u h) 0 ms) (ms.take i)/\SqT K H8 fp [.int (bP (aD ((ms.take i).map (gH wt u h))) (Dn wt)),.int (bI (aD ((ms.take i).map (gH wt u h))) (Dn wt))])
    ⟨_,_,_,_,fp,rfl,s07,em7,?_,?_⟩ (fun i σ H8 _ ⟨_,_,_,_,_,_,_,h,_⟩=>SqL.of h) ?_ ?_⟩
   ·exact ⟨[],ed7,Jj _,fun w=>⟨fun z=>(Ja z).elim,fun _=>rfl⟩⟩
   ·have:bP 0 (Dn wt)=0/\bI 0 (Dn wt)=1:=by
     have:=aA6 0 hD
     rwa [Yw] at this
    show SqT K H7 fp [.int (bP 0 (Dn wt)),.int (bI 0 (Dn wt))]
    rw [this.1,this.2]
    exact SqT.of ef7
   ·rintro i x σ H8 hx ⟨v6,v7,v8,v9,fp,rfl,s8,em8,P8,f8⟩
    obtain ⟨wv,hwv,rfl⟩:=iA hx
    have hwm:=Qh hwv
    obtain ⟨w0,w1,wu⟩:=mmem wv hwm
    dsimp only [bN]
    have hil:i < ms.length:=(Qd.mp hwv).1
    have hzx:zs[wv.toNat]?=some (zs[wv.toNat]'(by omega)):=Qb (by omega)
    generalize zs[wv.toNat]'(by omega)=zx at hzx
    obtain ⟨ra,rxs,q,rfl,hra,hrat,hq⟩:=xO hden (show wv.toNat < m by omega) hzx h0 h1
    refine ⟨_,rfl,_,rfl,sp,zs,wv,.ref ra,rfl,rfl,s8.seqL hsp,nI w0 hzx,_,rfl,ra,rxs,h,.ref q,rfl,rfl,s8.seqT hra,hrat,q,_,rfl,s8.seqT hq,rfl,_,_,rfl,_,_,rfl,rfl,?_⟩
    have ew:(wt.map V.int)[wv.toNat]?=some (.int (Wt wt wv)):=by
     unfold Wt
     rw [Qe,Qn,Qb (show wv.toNat < wt.length by omega)]; rfl
    have hWp:0 < Wt wt wv:=aCS unn rows h0 h1 w1 wu w0
    have wnn:∀ x∈wt,0<=x:=fun x hx=>(hwt x hx).1
    have hWm:=(hwt _ (rY hWp)).2
    have hB:=eE (u wv.toNat h) (show (0:Int) < 60 by decide)
    have hB2:=kS (a:=u wv.toNat h) (show (0:Int) < 60 by decide)
    have hgn:∀ x,0<=gH wt u h x:=aFj unn wnn h
    have hgD:∀ x∈ms,gH wt u h x<=Dn wt:=fun x hx=>by
     obtain ⟨a,b,c⟩:=mmem x hx
     exact aGb unn wnn rows h0 h1 a b (aCS unn rows h0 h1 b c a)
    refine ⟨_,rfl,_,rfl,_,rfl,_,rfl,_,rfl,wp,_,wv,_,rfl,rfl,s8.seqT hwp,nI w0 ew,_,_,rfl,rfl,⟨?_,?_⟩,_,_,rfl,Zz hB hWp,?_,fun lp hlp=>?_⟩
    ·exact Jy (show _<=60 by omega) (by decide)
    ·exact Jy (show _<=99 by omega) (by decide)
    ·have:bI (u wv.toNat h) 60*Wt wt wv<=60*99:=Yi hB2 hWm (Jn hWp) (by decide)
     exact Xv this (by decide)
    rw [(tX hWp).1,(tX hWp).2]
    have sL:=aE.new (o:=.tup [.int (bP (gH wt u h wv) (Dn wt)),.int (bI (gH wt u h wv) (Dn wt))]) hlp
    have eL:upd H8 lp (.tup [.int (bP (gH wt u h wv) (Dn wt)),.int (bI (gH wt u h wv) (Dn wt))]) lp=_:=aB
    generalize upd H8 lp (.tup [.int (bP (gH wt u h wv) (Dn wt)),.int (bI (gH wt u h wv) (Dn wt))])=H9 at sL eL ⊢
    have hF0:0<=aD ((ms.take i).map (gH wt u h)):=eU fun x _=>hgn x
    have hFs:aD ((ms.take (i+1)).map (gH wt u h))=aD ((ms.take i).map (gH wt u h))+gH wt u h wv:=by
     rw [cF hwv,Qt,cH]
     show _+(gH wt u h wv+0)=_
     omega
    have hFb:aD ((ms.take (i+1)).map (gH wt u h))<=12*Dn wt:=by
     have a:aD ((ms.take (i+1)).map (gH wt u h))<=aD ((ms.take (i+1)).map fun _=>Dn wt):=cC fun x hx=>hgD x (Ze hx)
     rw [hU (c:=Dn wt) fun _ _=>rfl] at a
     have b:(ms.take (i+1)).length<=12:=by rw [Jk]; have:=hpm.length_eq; omega
     have c:=Jo (show ((ms.take (i+1)).length:Int)<=12 by omega) (Jn hD)
     omega
    have hpa:=aCT (D:=Dn wt) (g:=gH wt u h) (F:=0) mnd hwv
    rw [Xo,<- hFs] at hpa
    generalize hFe:aD ((ms.take i).map (gH wt u h))=F at hF0 hFs f8 hpa
    generalize hFe2:aD ((ms.take (i+1)).map (gH wt u h))=F2 at hFs hFb hpa
    have hg0:=hgn wv
    have hgm:=hgD wv hwm
    have fit:∀ x:Int,0<=x->x<=12*Dn wt->(0 < bI x (Dn wt)/\bI x (Dn wt) < 2^200/\(bP x (Dn wt)).natAbs < 2^200):=fun x x0 x1=>by
     have a:=eE x hD
     have b:=kS (a:=x) hD
     have c:=pI x0 hD
     have d:=pJ x0 hD
     exact ⟨a,Xv (show bI x (Dn wt)<=60*99^12 by omega) (by decide),Jy (show (bP x (Dn wt)).natAbs<=12*(60*99^12) by omega) (by decide)⟩
    refine ⟨fp,lp,_,_,_,_,rfl,⟨sL.seqT f8,fit F hF0 (by omega)⟩,⟨SqT.of eL,fit _ hg0 (by omega)⟩,fun bp hbp=>?_⟩
    rw [(xN F (gH wt u h wv) hD).1,(xN F (gH wt u h wv) hD).2,<- hFs]
    have sB:=aE.new (o:=.tup [.int (bP F2 (Dn wt)),.int (bI F2 (Dn wt))]) hbp
    have eB:upd H9 bp (.tup [.int (bP F2 (Dn wt)),.int (bI F2 (Dn wt))]) bp=_:=aB
    have s89:=sL.trans sB
    generalize upd H9 bp (.tup [.int (bP F2 (Dn wt)),.int (bI F2 (Dn wt))])=H10 at sB eB s89 ⊢
    dsimp only [bN]
    have f10:=s89.seqT f8
    have b10:SqT K H10 bp _:=SqT.of eB
    have dB:aCx (bP F (Dn wt)) (bI F (Dn wt)):=⟨(fit F hF0 (by omega)).1,Jy (show _<=(60*99^12:Int).toNat by have:=kS (a:=F) hD; have:=eE F hD; omega) (by decide)⟩
    have dB2:aCx (bP F2 (Dn wt)+bI F2 (Dn wt) - 1) (bI F2 (Dn wt)):=⟨(fit F2 (by omega) (by omega)).1,Jy (show _<=(60*99^12:Int).toNat by have:=kS (a:=F2) hD; have:=eE F2 hD; omega) (by decide)⟩
    refine ⟨_,rfl,fp,_,0,_,rfl,rfl,f10,rfl,_,rfl,fp,_,1,_,rfl,rfl,f10,rfl,_,_,rfl,rfl,dB,_,rfl,bp,_,0,_,rfl,rfl,b10,rfl,_,rfl,bp,_,1,_,rfl,rfl,b10,rfl,_,_,rfl,rfl,_,_,rfl,rfl,_,rfl,bp,_,1,_,rfl,rfl,b10,rfl,_,_,rfl,rfl,dB2,_,_,rfl,fun rp hrp=>?_⟩
    rw [aD5 F hD,aFk F2 hD]
    have lo0:0<=F / Dn wt:=Zi hF0 (Jn hD)
    have lo1:F / Dn wt<=12:=by
     have:=Int.ediv_le_ediv (a:=F) (b:=12*Dn wt) hD (by omega)
     rwa [Int.mul_ediv_cancel _ (by omega)] at this
    have hi0:0<=cl (Dn wt) F2:=Zi (by omega) (Jn hD)
    have hi1:cl (Dn wt) F2<=12:=aAr hD hFb
    refine ⟨rp,_,_,rfl,aB,lo0,by omega,hi0,by omega,fun lq hlq=>?_⟩
    have sR:=aE.new (o:=.rng (F / Dn wt) (cl (Dn wt) F2)) hrp
    generalize upd H10 rp (.rng (F / Dn wt) (cl (Dn wt) F2))=H11 at sR hlq ⊢
    have hpl:qH (F / Dn wt) (cl (Dn wt) F2 - F / Dn wt).toNat=plc (Dn wt) (gH wt u h) 0 ms wv:=by rw [hpa]; rfl
    rw [hpl]
    have sQ:=aE.new (o:=.lst ((plc (Dn wt) (gH wt u h) 0 ms wv).map V.int)) hlq
    have eQ:upd H11 lq (.lst ((plc (Dn wt) (gH wt u h) 0 ms wv).map V.int)) lq=_:=aB
    have s812:=(s89.trans sR).trans sQ
    generalize upd H11 lq (.lst ((plc (Dn wt) (gH wt u h) 0 ms wv).map V.int))=H12 at sQ eQ s812 ⊢
    obtain ⟨kvs,k1,k2,k3⟩:=P8.same s812
    have htl:(ms.take i).length<=12:=by rw [Jk]; have:=hpm.length_eq; omega
    refine ⟨_,rfl,_,rfl,dp,_,rfl,oU.k (k:=.inl wv) k1 (by rw [sizeLine_eq]; omega),?_⟩
    have nq:lq≠dp:=fun z=>by rw [z,k1] at eQ; cases eQ
    have nbd:bp≠dp:=fun z=>by have:=(sR.trans sQ) _ _ eB; rw [z,k1] at this; cases this
    refine ⟨_,rfl,_,_,_,_,bp,rfl,(s8.trans s812).wr hdp0,by rw [aG nmd]; exact s812 _ _ em8,?_,?_⟩
    ·have tnd:(ms.take (i+1)).Nodup:=(Wd _ _).nodup mnd
     rw [cF hwv] at tnd ⊢
     have hnw:wv∉ms.take i:=fun z=>(Zs.mp tnd).2.2 _ z _ (Qo.mpr rfl) rfl
     have hnv:=(k3 wv).2 hnw
     refine ⟨_,aB,?_,fun w'=>?_⟩
     ·rw [qB _ hnv,Qr,Qr]
      exact Nat.add_le_add_right k2 1
     ·rw [iC]
      by_cases c:w'=wv
      ·rw [if_pos (by rw [c]),c]
       exact ⟨fun _=>⟨lq,rfl,by rw [aG nq]; exact eQ⟩,fun z=>absurd (Qj _ (Qo.mpr rfl)) z⟩
      ·have nk:¬ (Sum.inl w':Key)=Sum.inl wv:=fun z=>c (by simpa using z)
       rw [if_neg nk]
       refine ⟨fun z=>?_,fun z=>(k3 w').2 fun z'=>z (Jf _ z')⟩
       obtain ⟨q',a,b⟩:=(k3 w').1 ((Jm.mp z).resolve_right fun y=>c (Qo.mp y))
       exact ⟨q',a,by rw [aG (fun y=>by rw [y,k1] at b; cases b)]; exact b⟩
    ·exact SqT.of ((aG nbd).trans ((sR.trans sQ) _ _ eB))
   ·rintro σ H8 ⟨v6,v7,v8,v9,fp,rfl,s8,em8,P8,f8⟩
    rw [Qa,Js] at P8
    exact ⟨_,rfl,k dp ms H8 s8 hdp0 hpm hpw P8⟩
def aD7:Scope:=match (eY gC).getD 3 (.Pass ⟨0,0,0,0⟩) with
 | .Assign _ (.ListComp _ _ sc _) _=>sc
 | _=>{ kind:=.function,names:=[],isGenerator:=false,isCoroutine:=false }
theorem rC.congr {n:Nat} {tk:List (List Int)} {am am':Nat->Int} {rm rm':Int->Int} (h:rC n tk am rm) (ha:∀ w,w < tk.length->am w=am' w) (hr:∀ r:Int,0<=r->r < n->rm r=rm' r):rC n tk am' rm':=fun R=>by
 have e1:aD ((List.range tk.length).map fun w=>if (iT tk w).all R=true then am' w else 0)=aD ((List.range tk.length).map fun w=>if (iT tk w).all R=true then am w else 0):=aS fun w hw=>by rw [ha w (Jt.mp hw)]
 have e2:aD ((aO n).map fun h=>if R h=true then rm' h else 0)=aD ((aO n).map fun h=>if R h=true then rm h else 0):=aS fun r hr'=>by
  obtain ⟨a,b⟩:=bE.mp hr'
  rw [hr r a b]
 rw [e1,e2]
 exact h R
theorem Sprd.congr {n:Nat} {tk:List (List Int)} {am am':Nat->Int} {rm rm':Int->Int} {hl:Nat->Int->Int} (h:Sprd n tk am rm hl) (ha:∀ w,w < tk.length->am w=am' w) (hr:∀ r:Int,0<=r->r < n->rm r=rm' r):Sprd n tk am' rm' hl :=
 ⟨h.nn,h.sup,fun w hw=>by rw [<- ha w hw]; exact h.rows w hw,fun r a b=>by rw [<- hr r a b]; exact h.cols r a b⟩
theorem aD8 (lo hi:Int):(nH lo hi).Nodup:=by
 unfold nH
 rw [Yu,Wi]
 refine List.Pairwise.imp ?_ Wq
 intro a b h z
 exact h (by omega)
theorem aCU {D:Int} {g:Int->Int} {w:Int}:∀ {ms:List Int} {F:Int},(plc D g F ms w).Nodup
 | [],_=>Yz
 | x::ms,F=>by
  show (if w=x then nH (F / D) (cl D (F+g x)) else plc D g (F+g x) ms w).Nodup
  split
  ·exact aD8 _ _
  ·exact aCU
theorem aAw {α:Type} {k:Nat}:∀ {l:List (List α)},(∀ x∈l,x.length<=k)->l.flatten.length<=l.length*k
 | [],_=>Jj _
 | x::l,h=>by
  have h1:=aAw (l:=l) fun y hy=>h y (Ql _ hy)
  have h2:=h x (Qg ..)
  rw [Xx,Qr,Jl,Qai]
  omega
theorem aCV (n m:Nat) (wt:List Int) (u:Nat->Int->Int) (ms:Int->List Int) (w:Int):((List.range n).map fun (h:Nat)=>(plH wt u ms h w).map fun p=>V.int ((h:Int)*m+p)).flatten=(tkH n m wt u ms w).map V.int:=by
 unfold tkH aO
 simp [List.flatMap_def,List.map_flatten,Xy,Function.comp_def]
theorem But.seqTd {K:PySem.W.Frag} {t:Addr} {H H':Hp} {r:List (Key×V)} {a:Addr} {xs:List V} (e:But t H H') (ht:H t=some (.dK r)) (h:SqT K H a xs):SqT K H' a xs:=by
 rcases h with (h | ⟨o,h⟩) | h
 ·exact .inl (.inl (e a _ (fun z=>by rw [z,ht] at h; cases h) h))
 ·exact .inl (.inr ⟨o,e a _ (fun z=>by rw [z,ht] at h; cases h) h⟩)
 ·exact .inr h
theorem xP {l:List Int} {i:Nat} {v:Int} (hi:i < l.length) (w:Nat):(l.set i v).getD w 0=if w=i then v else l.getD w 0:=by
 rw [Qn,Xr,Qn]
 by_cases c:i=w
 ·rw [if_pos c,if_pos hi,if_pos c.symm]; rfl
 ·rw [if_neg c,if_neg (Ne.symm c)]
theorem aCW (k:Nat):(List.replicate k [V.int 1]).flatten=(List.replicate k (1:Int)).map V.int:=by
 induction k with
 | zero=>rfl
 | succ k ih=>rw [Xe,Xx,ih,Xe]; rfl
def aD9 (m:Nat) (hl:Nat->Int->Int) (first:Int) (w:Nat) (v:Int):Prop:=(∃ r:Int,0 < hl w r/\v=r / m)∨((∀ r,hl w r<=0)/\v=first)
structure Rnd (n:Int) (ws:List (List Int)) (wt:List Int) (bs:bU) (dl:List Int):Prop where
 len:dl.length=ws.length
 able:∀ (i:Nat) d l,dl[i]?=some d->ws[i]?=some l->d∈l
 least:∀ (i:Nat) d l,dl[i]?=some d->ws[i]?=some l->0 < wt.getD i 0->d∈cI (bG bs) l
 heap:∀ most h:Int,0 < most->(∀ x∈wt,x<=most)->0<=h->h < n->60*aD ((List.range ws.length).map fun w=>if dl.getD w 0=h then wt.getD w 0 else 0) < 60*most+gF bs h
theorem aFl {n:Int} {ws:List (List Int)} {wt:List Int} {bs:bU} {u hl:Nat->Int->Int} {msf:Int->List Int} {dl:List Int} (L:Plan n.toNat ws.length wt u msf) (PT:Parts n.toNat ws wt bs u) (S:Sprd (n.toNat*ws.length) ((List.range ws.length).map fun (w:Nat)=>tkH n.toNat ws.length wt u msf w) (fun w=>min (wt.getD w 0) 1) (fun _=>1) hl)
  (hne:∀ l∈ws,l≠[]) (hwl:wt.length=ws.length) (hdl:dl.length=ws.length) (hall:∀ w,w < ws.length->aD9 ws.length hl ((ws.getD w []).getD 0 0) w (dl.getD w 0)):Rnd n ws wt bs dl:=by
 have hlen:((List.range ws.length).map fun (w:Nat)=>tkH n.toNat ws.length wt u msf w).length=ws.length:=by rw [Qa,Jp]
 have key:∀ w r,w < ws.length->0 < hl w r->∃ h p:Int,0<=h/\h < n.toNat/\0<=p/\p < ws.length/\r=h*ws.length+p/\r / ws.length=h/\h∈cI (bG bs) (ws.getD w []):=fun w r hw hr=>by
  have a:=S.sup w r (by rw [hlen]; exact hw) hr
  rw [zD hw] at a
  obtain ⟨h,p,h0,h1,hp,e1,e2,_⟩:=L.taker a
  obtain ⟨p1,p2,p3⟩:=L.place h0 h1 hp
  obtain ⟨_,_,q⟩:=(L.mem h h0 h1 w).mp p1
  exact ⟨h,p,h0,h1,p2,p3,e1,e2,PT.sup w h hw q⟩
 have pos:∀ w,w < ws.length->0 < wt.getD w 0->∃ r,0 < hl w r/\dl.getD w 0=r / ws.length:=fun w hw hp=>by
  rcases hall w hw with h | ⟨h,_⟩
  ·exact h
  ·have e:=S.rows w (by rw [hlen]; exact hw)
   rw [bL fun r _=>by have:=S.nn w r; have:=h r; omega] at e
   have e':(0:Int)=min (wt.getD w 0) 1:=e
   omega
 have gd:∀ (i:Nat) d,dl[i]?=some d->dl.getD i 0=d:=fun i d h=>by rw [Qn,h]; rfl
 have gl:∀ (i:Nat) l,ws[i]?=some l->ws.getD i []=l:=fun i l h=>by rw [Qn,h]; rfl
 have lst:∀ (i:Nat) d l,dl[i]?=some d->ws[i]?=some l->0 < wt.getD i 0->d∈cI (bG bs) l:=fun i d l h1 h2 h3=>by
  have hi:=(Qd.mp h2).1
  obtain ⟨r,r1,r2⟩:=pos i hi h3
  obtain ⟨h,p,_,_,_,_,_,e2,q⟩:=key i r hi r1
  rw [gl i l h2] at q
  rw [<- gd i d h1,r2,e2]
  exact q
 refine ⟨hdl,fun i d l h1 h2=>?_,lst,fun most h m0 hm h0 h1=>?_⟩
 ·have hi:=(Qd.mp h2).1
  rcases hall i hi with ⟨r,r1,r2⟩ | ⟨_,e⟩
  ·obtain ⟨h,p,_,_,_,_,_,e2,q⟩:=key i r hi r1
   rw [gl i l h2] at q
   rw [<- gd i d h1,r2,e2]
   exact (Qy.mp q).1
  ·rw [gl i l h2,gd i d h1] at e
   have:=hne l (Qh h2)
   cases l with
   | nil=>exact absurd rfl this
   | cons y t=>rw [e]; exact Qg ..
 ·have hW:∀ w,Wt wt w<=most:=fun w=>by
   by_cases c:0 < Wt wt w
   ·exact hm _ (rY c)
   ·omega
  have b:=L.bound S hW m0 h0 (by omega)
  have c:=PT.cols h h0 (by omega)
  have e1:aD ((aO ws.length).map fun w=>u w.toNat h)=gF bs h:=by
   rw [<- c]
   unfold aO
   rw [Xy]
   exact aS fun w _=>rfl
  have e2:aD ((List.range ws.length).map fun w=>if dl.getD w 0=h then wt.getD w 0 else 0)<=aD ((aO ws.length).map fun w=>Wt wt w*mJ ws.length hl h w):=by
   unfold aO
   rw [Xy]
   refine cC fun w hw=>?_
   have hw':=Jt.mp hw
   show _<=Wt wt ((w:Nat):Int)*mJ ws.length hl h ((w:Nat):Int)
   have eW:Wt wt ((w:Nat):Int)=wt.getD w 0:=rfl
   have wn:=tV L.wnn ((w:Nat):Int)
   have cn:0<=mJ ws.length hl h ((w:Nat):Int):=eU fun p _=>S.nn _ _
   by_cases c1:dl.getD w 0=h
   ·rw [if_pos c1,<- eW]
    by_cases c2:0 < wt.getD w 0
    ·obtain ⟨r,r1,r2⟩:=pos w hw' c2
     obtain ⟨h',p,_,_,p0,p1,e1,e2,_⟩:=key w r hw' r1
     have eh:h'=h:=by rw [<- e2,<- r2,c1]
     have hc:1<=mJ ws.length hl h ((w:Nat):Int):=by
      have a:=hJ (f:=fun p=>hl ((w:Nat):Int).toNat (h*ws.length+p)) (l:=aO ws.length) (y:=p) (fun x _=>S.nn _ _) (bE.mpr ⟨p0,p1⟩)
      have e3:hl ((w:Nat):Int).toNat (h*ws.length+p)=hl w r:=by rw [e1,eh]; rfl
      have a':hl ((w:Nat):Int).toNat (h*ws.length+p)<=mJ ws.length hl h ((w:Nat):Int):=a
      omega
     have:=Xk hc wn
     omega
    ·have:Wt wt ((w:Nat):Int)=0:=by omega
     rw [this,Yw]; exact Jw _
   ·rw [if_neg c1]
    exact Zw wn cn
  rw [e1] at b
  omega
def oH (K:PySem.W.Frag) (Pt:Addr):Sp:=fun vs H Q _=>∃ (x:V) (n:Int) (ws:List (List Int)) (wp:Addr) (wt:List Int),vs = [x,.ref wp]/\Den K H (cW n ws) x/\cV (cW n ws)=true/\SqT K H wp (wt.map V.int)/\rN ws wt/\H Pt=some (.tab zE) /\
 ∀ p dl bs H',aE H H'->SqT K H' p (dl.map V.int)->eI (aO n.toNat) (ws.zip wt) bs->Rnd n ws wt bs dl->Q (.ref p) H'
theorem eF:FnScope ["book", "weights", "shares", "hands", "works", "places", "takers", "held", "told", "work", "row", "place"] ["book", "weights"] (aH gC):=⟨rfl,rfl,rfl,by decide +kernel,rfl,by decide +kernel,by decide +kernel⟩
theorem zG {f fI fS fP Pt:Addr} {fd dI dS dP:FuncData} (G:Fn K mg "rounded" gC ["book", "weights"] f fd) (B:Bl mg) (GIp:Fn K mg "in_parts" fO ["book", "weights"] fI dI) (OIp:FnOk P w K mg base CX0 9 fI dI ["book", "weights"] (lS K)) (GSp:Fn K mg "spread" iR ["takers", "amounts", "rooms"] fS dS) (OSp:FnOk P w K mg base CX0 2 fS dS ["takers", "amounts", "rooms"] (nG K)) (GPo:Fn K mg "places_of" mW ["hand", "weights", "shares"] fP dP) (OPo:FnOk P w K mg base CX0 4 fP dP ["hand", "weights", "shares"] (rZ K Pt)):FnOk P w K mg base CX0 10 f fd ["book", "weights"] (oH K Pt):=by
 refine G.fn.ok eF (fun vs H Q E h=>?_) (fun cdv A outer s H vs Q E hr h=>?_)
 ·obtain ⟨x,n,ws,wp,wt,rfl,_⟩:=h
  rfl
 ·obtain ⟨x,n,ws,wp,wt,rfl,hx,hbk,hwp,hwt,hT,k⟩:=h
  have r9:Room 9 _:=hr
  have r4:Room 4 _:=hr.mono (by decide)
  have r2:Room 2 _:=hr.mono (by decide)
  refine ⟨_,(aF (aT (i:=2) eF.nd rfl (Or.inr rfl) (aV bB (bF GIp OIp r9 rfl (aA (pv 0) (aA (pv 1) aC))) aI (fun _ _=>rfl)))
  (aF (kW (pv 0) (iX rfl (aW (aL (i:=3) eF.nd rfl (Or.inr rfl)) (aW (aL (i:=4) eF.nd rfl (Or.inr rfl)) dF))))
  (aF (aT (i:=5) eF.nd rfl (Or.inr rfl) (cO (own:=["hand"]) (fr:=[2,1]) (frn:=["shares", "weights"]) (aX (aH gC) ["book", "weights", "shares", "hands", "works", "places", "takers", "held", "told", "work", "row", "place"] rfl rfl (by decide +kernel)) rfl (cK rfl B.range (aA (pv 3) aC))
    (fun _ _ _ _=>(aL (i:=0) (show (["hand", "shares", "weights"]:List Str).Nodup by decide +kernel) rfl (Or.inl rfl))) (fun _ _ _ _=>cZ)
    (fun _ _ _ _=>(bF GPo OPo r4 rfl (aA (pv 0) (aA (pv 2) (aA (pv 1) aC)))))))
  (aF (oM (i:=6) (z0 := "work") (own:=["work"]) (fr:=[3,5,4]) (frn:=["hands", "places", "works"]) (mF (aH gC) ["book", "weights", "shares", "hands", "works", "places", "takers", "held", "told", "work", "row", "place"] rfl rfl (fun _ _=>rfl) (fun _=>rfl) (by decide +kernel)) rfl eF.nd rfl rfl rfl (cK rfl B.range (aA (aQ aU rfl B.len eZ (aA (pv 4) aC)) aC))
    (fun _ _ _ _=>(aL (i:=0) (show (["work", "hands", "places", "works"]:List Str).Nodup by decide +kernel) rfl (Or.inr rfl))) (fun _ _ _ _=>cZ)
    (fun _ _ _ _=>(aBW (own:=["hand", "place"]) (fr:=[2,0,3]) (frn:=["places", "work", "works"]) (aX (aDm aD7 (aH gC)) ["work", "hands", "places", "works"] rfl rfl (by decide +kernel)) rfl (cK rfl B.range (aA (pv 1) aC))
    (fun _ _ _ _=>(aL (i:=0) (show (["hand", "place", "places", "work", "works"]:List Str).Nodup by decide +kernel) rfl (Or.inl rfl))) (fun _ _ _ _=>(aBV (K:=K) rfl (aCl (K:=K) rfl PySem.F.plainAttrs_dict PySem.F.slot_dict_get PySem.F.type_dict_get uM (aV (mS (K:=K) rfl) (pv 2) (pv 0) (fun _ _=>rfl)) (aA (pv 3) (aA (eO aC) aC))))) (fun _ _ _ _=>(aL (i:=1) (show (["hand", "place", "places", "work", "works"]:List Str).Nodup by decide +kernel) rfl (Or.inl rfl)))
    (fun _ _ _ _=>(aZ gN (aZ dQ (pv 0) (aQ (sU (K:=K) rfl) rfl B.len eZ (aA (pv 4) aC))) (pv 1))))))
  (aF (aT (i:=7) eF.nd rfl (Or.inl rfl) (bF GSp OSp r2 rfl (aA (pv 6) (aA (cO (own:=["weight"]) (fr:=[]) (frn:=[]) (aX (aH gC) ["book", "weights", "shares", "hands", "works", "places", "takers", "held", "told", "work", "row", "place"] rfl rfl (by decide +kernel)) rfl (iK (pv 1))
    (fun _ _ _ _=>(aL (i:=0) (show (["weight"]:List Str).Nodup by decide +kernel) rfl (Or.inl rfl))) (fun _ _ _ _=>cZ)
    (fun _ _ _ _=>(aQ (tD rfl) rfl B.min aBS (aA (pv 0) (aA aI aC))))) (aA (aZ aBE (eO (aA aI aC)) (aZ dQ (pv 3) (aQ aU rfl B.len eZ (aA (pv 4) aC)))) aC)))))
  (aF (eP (i:=8) (own:=["able"]) (fr:=[]) (frn:=[]) (aX (aH gC) ["book", "weights", "shares", "hands", "works", "places", "takers", "held", "told", "work", "row", "place"] rfl rfl (by decide +kernel)) rfl eF.nd rfl rfl rfl (iK (pv 4))
    (fun _ _ _ _=>(aL (i:=0) (show (["able"]:List Str).Nodup by decide +kernel) rfl (Or.inl rfl))) (fun _ _ _ _=>cZ)
    (fun _ _ _ _=>(aV (gQ (K:=K) rfl) (pv 0) aI (fun _ _=>rfl))))
  (aF (eJ PassesOwn.never rfl (uD .l rfl B.enumerate (aA (pv 7) aC)) (iX rfl (aW (aL (i:=9) eF.nd rfl (Or.inl rfl)) (aW (aL (i:=10) eF.nd rfl (Or.inl rfl)) dF)))
   (aJ (uH (eJ PassesOwn.never rfl (oZ (pv 10)) (aL (i:=11) eF.nd rfl (Or.inl rfl))
   (aJ (fF (bO lV (jN (jL hr) (pv 10) (pv 11) (fun _ _=>rfl)) aI (cG _))
   (aJ (kW (aZ iI (pv 11) (aQ aU rfl B.len eZ (aA (pv 4) aC))) (xS (pv 8) (pv 9) mM)))
   bX))))))
  (aJ (aY (dY eV rfl B.tuple gG (aA (pv 8) aC))))))))))),?_⟩
  obtain ⟨a,b,ys,rfl,ha,hb,hys⟩:=iD hx
  have hly:=aM hys
  rw [Qa] at hly
  obtain ⟨hn1,hn6,h12,hws⟩:=cX hbk
  obtain ⟨RO,RS,RL⟩:=kD hbk hwt
  obtain ⟨hwl,hwb⟩:=id hwt
  refine ⟨_,rfl,_,rfl,_,n,ws,wp,wt,rfl,hx,hbk,hwp,hwt,fun p lp us sp zs bs u H1 s1 hp hlp dlp nsp hsp dsp hbl PT=>?_⟩
  refine ⟨p,_,1,.ref sp,rfl,rfl,hp,rfl,?_⟩
  dsimp only [bN]
  refine ⟨_,rfl,a,_,rfl,s1.seqT ha,rfl,_,_,rfl,_,_,rfl,rfl,?_⟩
  dsimp only [bN]
  have eN:((n.toNat:Nat):Int)=n:=by omega
  have wnn:∀ x∈wt,0<=x:=fun x hx=>(hwb x hx).1
  -- places
  refine ⟨_,rfl,_,rfl,by omega,by omega,fM (lo:=0) (n:=n.toNat) (fun σ=>∃ v,σ = [v,some (.ref sp),some (.ref wp)]) (fun i zs H2=>∃ (ds:List Addr) (mss:List (List Int)),zs=ds.map V.ref/\ds.length=i/\mss.length=i/\aE H1 H2/\∀ (j:Nat) d ms,ds[j]?=some d->mss[j]?=some ms->ms.Perm (jT u j ws.length)/\ms.Pairwise (fun x y=>Wt wt y<=Wt wt x)/\vI H2 d (plc (Dn wt) (gH wt u j) 0 ms) ms) (bR (by omega)) ⟨none,rfl⟩ ⟨[],[],rfl,rfl,rfl,aE.refl _,fun j d ms h=>by simp at h⟩ ?_ ?_ ?_⟩
  ·rintro i zs H2 ⟨ds,mss,rfl,hd,_⟩
   rw [Qa]; omega
  ·rintro i zs2 σ H2 hi ⟨v,rfl⟩ ⟨ds,mss,rfl,hd,hms,s2,hds⟩ hz
   dsimp only [bN]
   rw [Xo]
   refine ⟨_,rfl,_,rfl,_,rfl,(i:Int),wp,sp,n.toNat,ws.length,wt,u,zs,rfl,(s1.trans s2).seqT hwp,hwl,by omega,by omega,hwb,s2.seqL (SqL.of hsp),s2.denAll _ _ (by rw [eN]; exact dsp),by omega,by omega,PT.nn,PT.rows,(s1.trans s2) _ _ hT,fun dp ms H3 s3 ndp hpm hpw hpd=>?_⟩
   refine ⟨hz,⟨_,rfl⟩,ds++[dp],mss++[ms],by rw [Qt]; rfl,by rw [Qr,hd]; rfl,by rw [Qr,hms]; rfl,s2.trans s3,fun j d' ms' hj hj'=>?_⟩
   by_cases c:j < ds.length
   ·rw [Jc c] at hj
    rw [Jc (by omega)] at hj'
    obtain ⟨a1,a2,a3⟩:=hds j d' ms' hj hj'
    exact ⟨a1,a2,a3.same s3⟩
   ·have hjl:=(Qd.mp hj).1
    rw [Qr,Xd] at hjl
    have ej:j=i:=by omega
    rw [Jh (by omega),show j - ds.length=0 by omega] at hj
    rw [Jh (by omega),show j - mss.length=0 by omega] at hj'
    cases hj
    cases hj'
    rw [ej]
    exact ⟨hpm,hpw,hpd⟩
  ·rintro zs2 H2 ⟨ds,mss,rfl,hd,hms,s2,hds⟩ pl hpl
   have s13:=s2.trans (aE.new (o:=.lst (ds.map V.ref)) hpl)
   have e3:upd H2 pl (.lst (ds.map V.ref)) pl=_:=aB
   have hds3:∀ (j:Nat) d ms,ds[j]?=some d->mss[j]?=some ms->ms.Perm (jT u j ws.length)/\ms.Pairwise (fun x y=>Wt wt y<=Wt wt x)/\vI (upd H2 pl (.lst (ds.map V.ref))) d (plc (Dn wt) (gH wt u j) 0 ms) ms:=fun j d ms h1 h2=>by
    obtain ⟨a1,a2,a3⟩:=hds j d ms h1 h2
    exact ⟨a1,a2,a3.same (aE.new hpl)⟩
   generalize upd H2 pl (.lst (ds.map V.ref))=H3 at s13 e3 hds3 ⊢
   dsimp only [bN]
   -- the plan
   have hmsf:∀ h:Int,0<=h->h < n->∃ d,ds[h.toNat]?=some d/\mss[h.toNat]?=some (mss.getD h.toNat []):=fun h h0 h1=>by
    refine ⟨_,Qb (show h.toNat < ds.length by omega),?_⟩
    rw [Qn,Qb (show h.toNat < mss.length by omega)]; rfl
   have L:Plan n.toNat ws.length wt u fun h=>mss.getD h.toNat []:=by
    refine ⟨PT.nn,PT.rows,fun h h0 h1=>?_,fun h h0 h1 w'=>?_,fun h h0 h1=>?_,wnn⟩
    ·obtain ⟨d,a1,a2⟩:=hmsf h h0 (by omega)
     exact (hds3 _ d _ a1 a2).1.nodup_iff.mpr ((jS _).filter _)
    ·obtain ⟨d,a1,a2⟩:=hmsf h h0 (by omega)
     rw [(hds3 _ d _ a1 a2).1.mem_iff,oG,show ((h.toNat:Nat):Int)=h by omega]
    ·obtain ⟨d,a1,a2⟩:=hmsf h h0 (by omega)
     exact (hds3 _ d _ a1 a2).2.1
   have hpd:∀ h:Int,0<=h->h < n->∃ d,ds[h.toNat]?=some d/\vI H3 d (plH wt u (fun h=>mss.getD h.toNat []) h) (mss.getD h.toNat []):=fun h h0 h1=>by
    obtain ⟨d,a1,a2⟩:=hmsf h h0 h1
    have:=(hds3 _ d _ a1 a2).2.2
    rw [show ((h.toNat:Nat):Int)=h by omega] at this
    exact ⟨d,a1,this⟩
   generalize hmf:(fun h:Int=>mss.getD h.toNat [])=msf at L hpd
   have hpd':∀ h:Int,0<=h->h < n->∃ d,ds[h.toNat]?=some d/\vI H3 d (plH wt u msf h) (msf h):=fun h h0 h1=>by
    obtain ⟨d,a1,a2⟩:=hpd h h0 h1
    rw [<- hmf] at a2 ⊢
    exact ⟨d,a1,a2⟩
   clear hpd hds3 hmsf
   refine ⟨_,rfl,b,ys,rfl,.inr ((s1.trans s13).seqT hb),?_⟩
   rw [hly]
   refine ⟨_,rfl,by omega,by omega,fM (lo:=0) (n:=ws.length) (fun σ=>∃ v,σ = [v,some (.int n),some (.ref pl),some (.ref b)]) (fun i zs H4=>∃ qs:List Addr,zs=qs.map V.ref/\qs.length=i/\aE H3 H4/\∀ (j:Nat) q,qs[j]?=some q->H4 q=some (.lst ((tkH n.toNat ws.length wt u msf j).map V.int))) (bR (by omega)) ⟨none,rfl⟩ ⟨[],rfl,rfl,aE.refl _,fun j q h=>by simp at h⟩ ?_ ?_ ?_⟩
   ·rintro i zs H4 ⟨qs,rfl,hq,_⟩
    rw [Qa]; omega
   ·rintro i zs4 σ H4 hi ⟨v,rfl⟩ ⟨qs,rfl,hq,s4,hqs⟩ hz
    dsimp only [bN]
    rw [Xo]
    have hpll:∀ h:Int,0<=h->h < n->(plH wt u msf h i).length<=ws.length:=fun h h0 h1=>hV _ _ aCU fun p hp=>(L.place h0 (by omega) hp).2
    refine ⟨_,rfl,_,rfl,by omega,by omega,aBY (J:=Itr 0 n.toNat) (n:=n.toNat) (vss:=(List.range n.toNat).map fun (h:Nat)=>(plH wt u msf h i).map fun p=>V.int ((h:Int)*ws.length+p)) (fun σ=>∃ v0 v1,σ = [v0,v1,some (.ref pl),some (.int i),some (.ref b)]) ?_ (by rw [Qa,Jp]) ⟨_,_,rfl⟩ (fun H' _=>Qk _) (fun i H' hi _=>hi) ?_ ?_⟩
    ·refine Qv (aAw (k:=12) fun x hx=>?_) ?_
     ·obtain ⟨h,hh,rfl⟩:=Jd.mp hx
      have:=Jt.mp hh
      rw [Qa]
      exact Qv (hpll h (by omega) (by omega)) (by omega)
     ·rw [Qa,Jp]; omega
    ·rintro hj vs x σ H5 H6 hh hvs ⟨v0,v1,rfl⟩ s5 ⟨e,y⟩ P' k'
     subst e y
     dsimp only [bN]
     rw [Xo]
     rw [Qe,Xj hh] at hvs
     cases hvs
     obtain ⟨d,hdd,kvs,k1,k2,k3⟩:=hpd' hj (by omega) (by omega)
     rw [show ((hj:Nat):Int).toNat=hj by omega] at hdd
     have s35:=s4.trans s5
     have k1':=s35 _ _ k1
     refine ⟨_,rfl,_,rfl,pl,_,_,.ref d,rfl,rfl,SqL.of (s35 _ _ e3),cL (by rw [Qe,hdd]; rfl),.inr (.inr (.inl ⟨rfl,.inl ⟨_,k1'⟩⟩)),_,rfl,bR (show 0<=1000 by decide),fun p0 hp0=>⟨d,kvs,.inl (i:Int),.ref p0,rfl,rfl,.inl ((aE.new hp0) _ _ k1'),?_⟩⟩
     have s6:=aE.new (o:=.lst []) hp0
     obtain ⟨q,eq,hqL⟩:∃ q,(bK kvs (.inl (i:Int))).getD (.ref p0)=.ref q/\upd _ p0 (.lst []) q=some (.lst ((plH wt u msf hj i).map V.int)):=by
      by_cases c:(i:Int)∈msf hj
      ·obtain ⟨q,a1,a2⟩:=(k3 i).1 c
       exact ⟨q,by rw [a1]; rfl,s6 _ _ (s35 _ _ a2)⟩
      ·have en:plH wt u msf hj i = []:=List.eq_nil_iff_forall_not_mem.mpr fun p hp=>c (zC hp)
       exact ⟨p0,by rw [(k3 i).2 c]; rfl,by rw [en]; exact aB⟩
     rw [eq]
     generalize upd _ p0 (.lst [])=H7 at s6 hqL ⊢
     refine ⟨q,rfl,⟨_,SqL.of hqL⟩,k' _ _ _ s6 ?_⟩
     refine ⟨fun σ=>∃ v1,σ = [some (.int hj),v1,some (.ref pl),some (.int i),some (.ref b)],⟨_,rfl⟩,fun σ3 ⟨v,e⟩=>⟨_,_,e⟩,fun H' s'=>⟨_,SqL.of (s' _ _ hqL),by rw [Qa,Qa]; exact Qk _⟩,fun j H' hj' s'=>⟨_,_,SqL.of (s' _ _ hqL),Qb (by rw [Qa] at hj' ⊢; exact hj')⟩,?_⟩
     rintro j v y σ3 H8 H9 hv ⟨v1,rfl⟩ s8 ⟨e,y2⟩ Q' k''
     subst e
     obtain ⟨p,hp,rfl⟩:=iA (y2 _ (SqL.of (s8 _ _ hqL)))
     rw [Qe,hp] at hv
     cases hv
     dsimp only [bN]
     refine ⟨_,rfl,_,rfl,b,ys,rfl,.inr (((s1.trans s13).trans (s35.trans (s6.trans s8))).seqT hb),_,_,rfl,rfl,⟨?_,?_⟩,_,rfl,_,_,rfl,rfl,?_⟩
     ·exact Jy (show _<=6 by omega) (by decide)
     ·exact Jy (show _<=12 by omega) (by decide)
     ·rw [hly]
      exact k'' _ _ ⟨_,rfl⟩ (aE.refl _)
    ·intro H5 s5 q hq5
     rw [aCV]
     refine ⟨hz,⟨_,rfl⟩,qs++[q],by rw [Qt]; rfl,by rw [Qr,hq]; rfl,s4.trans (s5.trans (aE.new hq5)),fun j q' hj=>?_⟩
     by_cases c:j < qs.length
     ·rw [Jc c] at hj
      exact (s5.trans (aE.new hq5)) _ _ (hqs j q' hj)
     ·have hjl:=(Qd.mp hj).1
      rw [Qr,Xd] at hjl
      rw [Jh (by omega),show j - qs.length=0 by omega] at hj
      cases hj
      rw [show j=i by omega]
      exact aB
   ·rintro zs4 H4 ⟨qs,rfl,hq,s4,hqs⟩ tp htp
    have s14:=s13.trans (s4.trans (aE.new (o:=.lst (qs.map V.ref)) htp))
    have LL:LLs (upd H4 tp (.lst (qs.map V.ref))) tp qs ((List.range ws.length).map fun (w:Nat)=>tkH n.toNat ws.length wt u msf w):=⟨aB,by rw [Qa,Jp]; exact hq,fun w q l h1 h2=>by
     have hwl':w < ws.length:=by rw [<- hq]; exact (Qd.mp h1).1
     rw [Qe,Xj hwl'] at h2
     cases h2
     exact (aE.new htp) _ _ (hqs w q h1)⟩
    generalize upd H4 tp (.lst (qs.map V.ref))=H5 at s14 LL ⊢
    dsimp only [bN]
    have s15:=s1.trans s14
    refine ⟨_,rfl,_,rfl,wp,rfl,⟨_,s15.seqT hwp⟩,jA (K:=K) (a:=wp) (xs:=wt.map V.int) (vs:=(wt.map fun x=>min x 1).map V.int) (fun σ=>∃ v,σ = [v]) (by rw [Qa,hwl]; omega) (by simp) (s15.seqT hwp) ⟨none,rfl⟩ ?_ ?_⟩
    ·rintro i x v σ H6 hx6 hv ⟨v0,rfl⟩ s6 Q' k'
     obtain ⟨x,hx2,rfl⟩:=iA hx6
     rw [Qe,Qe,hx2] at hv
     cases hv
     refine ⟨_,rfl,_,_,rfl,?_⟩
     rw [show (if (1:Int) < x then 1 else x)=min x 1 by split <;> omega]
     exact k' _ _ ⟨_,rfl⟩ (aE.refl _)
    ·intro H6 s6 ap hap
     have s57:=s6.trans (aE.new (o:=.lst ((wt.map fun x=>min x 1).map V.int)) hap)
     have eap:upd H6 ap (.lst ((wt.map fun x=>min x 1).map V.int)) ap=_:=aB
     generalize upd H6 ap (.lst ((wt.map fun x=>min x 1).map V.int))=H7 at s57 eap ⊢
     have s17:=s15.trans s57
     refine ⟨sz1 _,fun pz hpz=>?_⟩
     have s78:=aE.new (o:=.lst [V.int 1]) hpz
     have epz:upd H7 pz (.lst [V.int 1]) pz=_:=aB
     generalize upd H7 pz (.lst [V.int 1])=H8 at s78 epz ⊢
     refine ⟨_,rfl,_,rfl,b,ys,rfl,.inr ((s17.trans s78).seqT hb),_,_,rfl,rfl,⟨gI (by omega),gI (by omega)⟩,pz,_,_,rfl,rfl,epz,?_⟩
     rw [hly]
     have eK:n*(ws.length:Int)=((n.toNat*ws.length:Nat):Int):=by rw [Ys,eN]
     have hK:n.toNat*ws.length<=72:=Qv (Qab (show n.toNat<=6 by omega) (show ws.length<=12 by omega)) (by decide)
     rw [eK]
     refine ⟨by omega,by omega,bR (by show 1*(((n.toNat*ws.length:Nat):Int)).toNat<=1000; omega),fun mp hmp=>?_⟩
     rw [show (((n.toNat*ws.length:Nat):Int)).toNat=n.toNat*ws.length by omega,aCW]
     have s89:=aE.new (o:=.lst ((List.replicate (n.toNat*ws.length) (1:Int)).map V.int)) hmp
     have emp:upd H8 mp (.lst ((List.replicate (n.toNat*ws.length) (1:Int)).map V.int)) mp=_:=aB
     generalize upd H8 mp (.lst ((List.replicate (n.toNat*ws.length) (1:Int)).map V.int))=H9 at s89 emp ⊢
     have s79:=s78.trans s89
     have s19:=s17.trans s79
     have cA:∀ w,w < ((List.range ws.length).map fun (w:Nat)=>tkH n.toNat ws.length wt u msf w).length->min (wt.getD w 0) 1=fnL (wt.map fun x=>min x 1) w:=fun w hw=>by
      rw [Qa,Jp] at hw
      unfold fnL
      rw [iJ _ wt w 0 0 (by omega)]
     have cR:∀ r:Int,0<=r->r < ((n.toNat*ws.length:Nat):Int)->(1:Int)=fnI (List.replicate (n.toNat*ws.length) 1) r:=fun r r0 r1=>by
      unfold fnI
      rw [Qn,Xp,if_pos (by omega)]; rfl
     refine ⟨tp,ap,mp,qs,_,wt.map (fun x=>min x 1),List.replicate (n.toNat*ws.length) 1,n.toNat*ws.length,rfl,(LL.same s57).same s79,SqL.of (s79 _ _ eap),emp,by rw [Qa,Qa,Jp]; exact hwl,Xi,by omega,by rw [Qa,Jp]; omega,fun x hx=>?_,fun x hx=>?_,fun w h hh=>?_,L.hall.congr cA cR,fun hp2 ds2 hds2 hl H10 s10 R10 hdl HO S10=>?_⟩
     ·obtain ⟨y,hy,rfl⟩:=Jd.mp hx
      have:=wnn y hy
      omega
     ·rw [(List.mem_replicate.mp hx).2]; decide
     ·by_cases c:w < ws.length
      ·rw [zD c] at hh
       obtain ⟨_,_,_,_,_,_,_,a1,a2⟩:=L.taker hh
       exact ⟨a1,a2⟩
      ·unfold iT at hh
       rw [Qn,Zr (by rw [Qa,Jp]; omega)] at hh
       exact (Ja hh).elim
     ·have S:=S10.congr (fun w hw=>(cA w hw).symm) fun r a b=>(cR r a b).symm
      rw [Qa,Jp] at hdl
      dsimp only [bN]
      have s1a:=s19.trans s10
      -- told
      refine ⟨_,rfl,b,rfl,⟨_,s1a.seqT hb⟩,jA (K:=K) (a:=b) (xs:=ys) (vs:=(ws.map fun l=>l.getD 0 0).map V.int) (fun σ=>∃ v,σ = [v]) (by omega) (by simp [hly]) (s1a.seqT hb) ⟨none,rfl⟩ ?_ ?_⟩
      ·rintro i x v σ H11 hx11 hv ⟨v0,rfl⟩ s11 Q' k'
       obtain ⟨l,hl2,hld⟩:=cE hys hx11
       obtain ⟨al,rfl,hal⟩:=cM.mp hld
       rw [Qe,Qe,hl2] at hv
       cases hv
       obtain ⟨c1,c2,c3⟩:=gJ (hws l (Qh hl2))
       refine ⟨_,rfl,al,_,0,_,rfl,rfl,(s1a.trans s11).seqT hal,cL (j:=0) (v:=.int (l.getD 0 0)) ?_,k' _ _ ⟨_,rfl⟩ (aE.refl _)⟩
       cases l with
       | nil=>exact absurd rfl c1
       | cons y t=>rfl
      ·intro H11 s11 tl htl
       have ntl:H10 tl=none:=s11.free htl
       have s12:=s11.trans (aE.new (o:=.lst ((ws.map fun l=>l.getD 0 0).map V.int)) htl)
       have etl:upd H11 tl (.lst ((ws.map fun l=>l.getD 0 0).map V.int)) tl=_:=aB
       generalize upd H11 tl (.lst ((ws.map fun l=>l.getD 0 0).map V.int))=H12 at s12 etl ⊢
       dsimp only [bN]
       have R12:=R10.same s12
       refine ⟨_,rfl,hp2,_,rfl,SqL.of R12.lst,wA (K:=K) (k:=.l) (a:=hp2) (xs:=ds2.map V.ref)
        (fun i σ H13=>(∃ v9 v10 v11,σ = [some (.ref a),some (.ref wp),some (.ref sp),some (.int n),some (.ref b),some (.ref pl),some (.ref tp),some (.ref hp2),some (.ref tl),v9,v10,v11])/\aE H10 H13/\∃ dl:List Int,dl.length=ws.length/\H13 tl=some (.lst (dl.map V.int))/\∀ w,w < ws.length->(w < i->aD9 ws.length hl ((ws.getD w []).getD 0 0) w (dl.getD w 0))/\(¬ w < i->dl.getD w 0=(ws.getD w []).getD 0 0))
        ⟨⟨_,_,_,rfl⟩,s12,_,by rw [Qa],etl,fun w hw=>⟨fun z=>by omega,fun _=>iJ _ ws w [] 0 hw⟩⟩ (fun _ σ H13 _ ⟨_,s13,_⟩=>SqL.of (s13 _ _ R10.lst)) ?_ ?_⟩
       ·rintro i x p σ H13 hx13 ⟨⟨v9,v10,v11,rfl⟩,s13',dl,hdl2,etl13,hrd⟩ hp'
        rw [Qe] at hx13
        obtain ⟨d,hd2,rfl⟩:=Qz.mp hx13
        have hi:i < hds2.length:=by rw [<- R10.len]; exact (Qd.mp hd2).1
        have him:i < ws.length:=by omega
        have hri:hds2[i]?=some hds2[i]:=Qb hi
        generalize hds2[i]=r at hri
        have hrow:=R10.row i d r hd2 hri
        obtain ⟨hrn,hval,hnon,_⟩:=HO i r hri
        have sp':=aE.new (o:=.tup [.int (i:Nat),.ref d]) hp'
        have ep:upd H13 p (.tup [.int (i:Nat),.ref d]) p=some (.tup [.int (i:Nat),.ref d]):=aB
        have s14':=s13'.trans sp'
        have et14:=sp' _ _ etl13
        generalize upd H13 p (.tup [.int (i:Nat),.ref d])=H14 at sp' ep s14' et14 ⊢
        refine ⟨p,_,rfl,SqT.of ep,rfl,_,_,rfl,_,_,rfl,rfl,?_⟩
        have ntd:tl≠d:=fun z=>by rw [z,hrow] at ntl; cases ntl
        refine ⟨_,rfl,d,r,rfl,s14' _ _ hrow,fun o nf=>?_⟩
        have z6:upd H14 d (.frz o (.dK r)) d=some (.frz o (.dK r)):=aB
        have b6:But d H10 (upd H14 d (.frz o (.dK r))):=fun b' u' nb hb'=>by rw [aG nb]; exact s14' _ _ hb'
        have et6:upd H14 d (.frz o (.dK r)) tl=some (.lst (dl.map V.int)):=(aG ntd).trans et14
        generalize upd H14 d (.frz o (.dK r))=H15 at z6 b6 et6 ⊢
        refine qE (a:=d) (o:=o) (kvs:=r) (fun j σ H16=>(∃ v11,σ = [some (.ref a),some (.ref wp),some (.ref sp),some (.int n),some (.ref b),some (.ref pl),some (.ref tp),some (.ref hp2),some (.ref tl),some (.int (i:Nat)),some (.ref d),v11])/\H16 d=some (.frz o (.dK r))/\But d H10 H16/\∃ dl:List Int,dl.length=ws.length/\H16 tl=some (.lst (dl.map V.int))/\(∀ w,w < ws.length->(w < i->aD9 ws.length hl ((ws.getD w []).getD 0 0) w (dl.getD w 0))/\(i < w->dl.getD w 0=(ws.getD w []).getD 0 0)) /\
         ((∃ r':Int,0 < hl i r'/\dl.getD i 0=r' / ws.length)∨(dl.getD i 0=(ws.getD i []).getD 0 0/\∀ (j':Nat) (kv:Key×V) (g:Int),j' < j->r[j']?=some kv->kv.1=.inl g->hl i g<=0)))
         ⟨⟨_,rfl⟩,z6,b6,dl,hdl2,et6,fun w hw=>⟨(hrd w hw).1,fun z=>(hrd w hw).2 (by omega)⟩,.inr ⟨(hrd i him).2 (by omega),fun j' _ _ z=>by omega⟩⟩ (fun j σ H16 _ ⟨_,h,_⟩=>h) ?_ ?_
        ·rintro j ⟨key,val⟩ σ H16 hj ⟨⟨v11,rfl⟩,z7,b7,dl,hdl2,et7,hrd,hcur⟩
         have hsome:(bK r key).isSome=true:=by
          rw [<- dM,Jz]
          exact ⟨_,Qh hj,by simp⟩
         obtain ⟨gv,rfl,hg0,hg1⟩:=hrn.key hsome
         obtain ⟨vv,hvv⟩:∃ v,bK r (.inl gv)=some v:=by
          cases q:bK r (.inl gv) with
          | none=>rw [q] at hsome; cases hsome
          | some v=>exact ⟨v,rfl⟩
         have ev:=hval gv vv hvv
         subst ev
         dsimp only [kV]
         refine ⟨_,rfl,_,rfl,d,.int (hl i gv),rfl,.inl ⟨r,.inl gv,.inr ⟨o,z7⟩,rfl,hvv.symm⟩,_,_,rfl,rfl,_,rfl,?_⟩
         refine gW (fun c=>?_) (fun c=>?_)
         ·have hpos:0 < hl i gv:=of_decide_eq_true c
          refine ⟨_,rfl,_,rfl,b,ys,rfl,.inr (b7.seqTd hrow (s1a.seqT hb)),_,_,rfl,rfl,⟨by omega,gI (by omega)⟩,_,rfl,_,rfl,tl,_,(i:Int),i,rfl,rfl,et7,?_,?_⟩
          ·have:=yX (n:=(dl.map V.int).length) (k:=(i:Int)) (by omega) (by rw [Qa]; omega)
           rwa [show ((i:Nat):Int).toNat=i by omega] at this
          ·rw [hly]
           have eset:(dl.map V.int).set i (.int (gv / (ws.length:Int)))=(dl.set i (gv / (ws.length:Int))).map V.int:=Qal.symm
           rw [eset]
           refine ⟨⟨_,rfl⟩,(aG (Ne.symm ntd)).trans z7,fun b' u' nb hb'=>by rw [aG (fun z=>by rw [z,ntl] at hb'; cases hb')]; exact b7 b' u' nb hb',_,by rw [Za]; exact hdl2,aB,fun w hw=>?_,.inl ⟨gv,hpos,by rw [xP (by omega),if_pos rfl]⟩⟩
           rw [xP (by omega)]
           exact ⟨fun z=>by rw [if_neg (by omega)]; exact (hrd w hw).1 z,fun z=>by rw [if_neg (by omega)]; exact (hrd w hw).2 z⟩
         ·have hpos:¬ 0 < hl i gv:=fun z=>c (decide_eq_true z)
          refine ⟨⟨_,rfl⟩,z7,b7,dl,hdl2,et7,hrd,hcur.imp id fun ⟨q1,q2⟩=>⟨q1,fun j' kv g hj' hkv hg=>?_⟩⟩
          by_cases cj:j' < j
          ·exact q2 j' kv g cj hkv hg
          ·rw [show j'=j by omega,hj] at hkv
           have ek:(Sum.inl gv,val)=kv:=Option.some.inj hkv
           have eg:gv=g:=by rw [<- ek] at hg; simpa using hg
           rw [<- eg]; omega
        ·rintro σ H16 ⟨⟨v11,rfl⟩,z7,b7,dl,hdl2,et7,hrd,hcur⟩
         refine ⟨d,o,r,z7,nf,?_⟩
         have s8:aE H10 (upd H16 d (.dK r)):=fun b' u' hb'=>by
          by_cases hbq:b'=d
          ·rw [hbq] at hb' ⊢
           rw [aB,<- hrow]; exact hb'
          ·rw [aG hbq]; exact b7 b' u' hbq hb'
         refine ⟨⟨_,_,_,rfl⟩,s8,dl,hdl2,(aG ntd).trans et7,fun w hw=>⟨fun z=>?_,fun z=>(hrd w hw).2 (by omega)⟩⟩
         by_cases c:w < i
         ·exact (hrd w hw).1 c
         ·have ew:w=i:=by omega
          subst ew
          rcases hcur with hcur | ⟨q1,q2⟩
          ·exact .inl hcur
          ·refine .inr ⟨fun r'=>?_,q1⟩
           by_cases c2:0 < hl w r'
           ·have hs:(bK r (.inl r')).isSome=true:=by
             cases q:bK r (.inl r') with
             | none=>rw [hnon _ q] at c2; omega
             | some v=>rfl
            rw [<- dM,Jz] at hs
            obtain ⟨kv,hk1,hk2⟩:=hs
            obtain ⟨j',hj'⟩:=Jx.mp hk1
            exact q2 j' kv r' (Qd.mp hj').1 hj' (of_decide_eq_true hk2)
           ·omega
       ·rintro σ H13 ⟨⟨v9,v10,v11,rfl⟩,s13',dl,hdl2,etl13,hrd⟩
        refine ⟨_,rfl,tl,_,rfl,.inl ⟨SqL.of etl13,fun rp hrp=>k rp dl bs _ ((s1a.trans s13').trans (aE.new hrp)) (SqT.of aB) hbl ?_⟩⟩
        rw [Qa] at hrd
        have hdn:ds2.length=ws.length:=by rw [R10.len]; exact hdl
        have hall:∀ w,w < ws.length->aD9 ws.length hl ((ws.getD w []).getD 0 0) w (dl.getD w 0):=fun w hw=>(hrd w hw).1 (by omega)
        exact aFl L PT S (fun l hl'=>(gJ (hws l hl')).1) hwl hdl2 hall
theorem aCX (n:Nat):inV (.bl false) ((List.replicate n true).map V.bl)=false:=by
 induction n with
 | zero=>rfl
 | succ n ih =>
  rw [Xe,Jg]
  unfold inV at ih ⊢
  rw [Yc,ih]
  rfl
theorem aCY (l:List Bool):(l.map V.bl).all lW=true:=by
 induction l with
 | nil=>rfl
 | cons x l ih=>rw [Jg,Yb,ih]; rfl
def hpI (dl wt:List Int) (i:Nat) (h:Int):Int:=aD ((List.range i).map fun w=>if dl.getD w 0=h then wt.getD w 0 else 0)
theorem xQ (dl wt:List Int) (i:Nat) (h:Int):hpI dl wt (i+1) h=hpI dl wt i h+if dl.getD i 0=h then wt.getD i 0 else 0:=by
 unfold hpI
 rw [List.range_succ,Qt,cH]
 show _+(_+0)=_
 rw [Zp]
def hps (n:Int) (dl wt:List Int) (i:Nat):List Int:=(aO n.toNat).map (hpI dl wt i)
theorem pM (n:Int) (dl wt:List Int) (i:Nat):(hps n dl wt i).length=n.toNat:=by unfold hps; rw [Qa,bH]
theorem aEa {n:Int} {dl wt:List Int} {i:Nat} {h:Int} (h0:0<=h) (h1:h < n):(hps n dl wt i)[h.toNat]?=some (hpI dl wt i h):=by
 unfold hps
 rw [Qe,gD (by omega),show ((h.toNat:Nat):Int)=h by omega]; rfl
theorem aCZ {n:Int} {dl wt:List Int} {i:Nat} {h:Int} (h0:0<=h) (h1:h < n):atI ((hps n dl wt i).map V.int) h=some (.int (hpI dl wt i h)):=nI h0 (by rw [Qe,aEa h0 h1]; rfl)
theorem aEb {n:Int} {dl wt:List Int} {i:Nat} {d y:Int} (h0:0<=d) (h1:d < n) (hd:dl[i]?=some d) (hy:wt[i]?=some y):(hps n dl wt i).set d.toNat (hpI dl wt i d+y)=hps n dl wt (i+1):=by
 have ed:dl.getD i 0=d:=by rw [Qn,hd]; rfl
 have ey:wt.getD i 0=y:=by rw [Qn,hy]; rfl
 refine List.ext_getElem? fun j=>?_
 rw [Xr,pM]
 unfold hps
 rw [Qe,Qe]
 by_cases hj:j < n.toNat
 ·rw [gD hj]
  by_cases c:d.toNat=j
  ·rw [if_pos c,if_pos (by omega)]
   show _=some (hpI dl wt (i+1) j)
   rw [xQ,if_pos (by rw [ed]; omega),ey,show ((j:Nat):Int)=d by omega]
  ·rw [if_neg c]
   show some (hpI dl wt i j)=some (hpI dl wt (i+1) j)
   rw [xQ,if_neg (by rw [ed]; omega),Zp]
 ·rw [Zr (by rw [bH]; omega),if_neg (by omega)]; rfl
theorem aBo (n:Int) (dl wt:List Int):(List.replicate n.toNat [V.int 0]).flatten=(hps n dl wt 0).map V.int:=by
 have el:∀ m:Nat,(List.replicate m [V.int 0]).flatten=List.replicate m (V.int 0):=fun m=>by
  induction m with
  | zero=>rfl
  | succ m ih=>rw [Xe,Xx,ih]; rfl
 rw [el]
 unfold hps
 rw [Xy]
 refine List.ext_getElem? fun j=>?_
 rw [Xp]
 by_cases hj:j < n.toNat
 ·rw [if_pos hj,Qe,gD hj]; rfl
 ·rw [if_neg hj,Zr (by rw [Qa,bH]; omega)]
theorem aEc {x:Int×Int} (hx:0 < x.2) (most:Int):0 < (kT [x,(most,1)]).2/\(kT [x,(most,1)]).1*x.2=(x.1+most*x.2)*(kT [x,(most,1)]).2:=by
 show 0 < (jG (jG (0,1) x) (most,1)).2/\(jG (jG (0,1) x) (most,1)).1*x.2=(x.1+most*x.2)*(jG (jG (0,1) x) (most,1)).2
 have e1:jG (0,1) x=(bP x.1 x.2,bI x.1 x.2):=by
  show bM (0*x.2+x.1*1,1*x.2)=_
  rw [Yw,Xo,Xz,Int.one_mul]; rfl
 have c1:=kC x.1 hx
 have p1:=eE x.1 hx
 rw [e1]
 generalize bP x.1 x.2=A at c1
 generalize bI x.1 x.2=B at c1 p1
 have e2:jG (A,B) (most,1)=(bP (A+most*B) B,bI (A+most*B) B):=by
  show bM (A*1+most*B,B*1)=_
  rw [Xz,Xz]; rfl
 have c2:=kC (A+most*B) p1
 have p2:=eE (A+most*B) p1
 rw [e2]
 show 0 < bI (A+most*B) B/\bP (A+most*B) B*x.2=(x.1+most*x.2)*bI (A+most*B) B
 generalize bP (A+most*B) B=C at c2
 generalize bI (A+most*B) B=E at c2 p2
 refine ⟨p2,Zv (a:=B) (by omega) ?_⟩
 calc C*x.2*B=C*B*x.2:=Ju ..
  _=(A*x.2+most*B*x.2)*E:=by rw [c2,Ju,Xs]
  _=(x.1*B+most*x.2*B)*E:=by rw [c1,Ju most B x.2]
  _=(x.1+most*x.2)*E*B:=by rw [<- Xs,Ju]
theorem aC0 {x:Int×Int} (hx:0 < x.2) {most hp:Int} (h:hp*x.2 < x.1+most*x.2):decide ((kT [x,(most,1)]).1*1<=hp*(kT [x,(most,1)]).2)=false:=by
 obtain ⟨a,b⟩:=aEc hx most
 refine decide_eq_false fun z=>?_
 generalize (kT [x,(most,1)]).1=A at b z
 generalize (kT [x,(most,1)]).2=B at a b z
 rw [Xz] at z
 have c:=Jo z (Jn hx)
 have d:=Xt h a
 rw [b,Ju] at c
 omega
theorem pX {x:Int×Int} (hx:nX x) (x0:0<=x.1) (x1:x.1<=100000) (x2:x.2<=6) {most:Int} (m0:0<=most) (m1:most<=99):aEr [x,(most,1)]:=by
 have hx2:=hx.1
 have e1:jG (0,1) x=(bP x.1 x.2,bI x.1 x.2):=by
  show bM (0*x.2+x.1*1,1*x.2)=_
  rw [Yw,Xo,Xz,Int.one_mul]; rfl
 have small:∀ a b:Int,0 < b->b<=6->0<=a->a<=1000000->nX (a,b):=fun a b b0 b1 a0 a1=>⟨b0,Xv (show b<=6 from b1) (by decide),Jy (show a.natAbs<=1000000 by omega) (by decide)⟩
 have q1:=eE x.1 hx2
 have q2:=kS (a:=x.1) hx2
 have q3:=pI x0 hx2
 have q4:=pJ x0 hx2
 have f1:nX (jG (0,1) x):=by rw [e1]; exact small _ _ q1 (by omega) q3 (by omega)
 have f2:nX (jG (jG (0,1) x) (most,1)):=by
  rw [e1]
  generalize bP x.1 x.2=A at q3 q4
  generalize bI x.1 x.2=B at q1 q2
  have e2:jG (A,B) (most,1)=(bP (A+most*B) B,bI (A+most*B) B):=by
   show bM (A*1+most*B,B*1)=_
   rw [Xz,Xz]; rfl
  have mb:0<=most*B/\most*B<=99*6:=⟨Zw m0 (by omega),Yi m1 (by omega) (by omega) (by decide)⟩
  generalize most*B=q at mb e2
  have r1:=eE (A+q) q1
  have r2:=kS (a:=A+q) q1
  have r3:=pI (show 0<=A+q by omega) q1
  have r4:=pJ (show 0<=A+q by omega) q1
  rw [e2]
  exact small _ _ r1 (by omega) r3 (by omega)
 refine ⟨fun y hy=>?_,fun i=>?_⟩
 ·rcases Qp.mp hy with rfl | hy
  ·exact hx
  ·rw [Qo.mp hy]; exact small _ _ (by decide) (by decide) m0 (by omega)
 ·match i with
  | 0=>exact small 0 1 (by decide) (by decide) (by decide) (by decide)
  | 1=>exact f1
  | n+2=>rw [Xg (by simp)]; exact f2
theorem zH {b:List Int×Int} {bs:bU} {left:List Int} {rows:bU} (hb:eI left rows (b::bs)) {h:Int} (hh:h∈left):iN (b.2,(b.1.length:Int)) (bG (b::bs) h)=false:=by
 cases z:inS b.1 h with
 | true =>
  rw [jR z]
  exact decide_eq_false (by show ¬ b.2*_ < b.2*_; omega)
 | false =>
  rw [kB z]
  obtain ⟨c,c1,_,c3⟩:=lQ hb.2 h (Qy.mpr ⟨hh,by rw [z]; rfl⟩)
  rw [c3]
  have:=(qZ hb.1 hb.2 c c1).2
  exact decide_eq_false (by show ¬ b.2*(c.1.length:Int) < c.2*(b.1.length:Int); omega)
def sD (K:PySem.W.Frag):Sp:=fun vs H Q _=>∃ (x:V) (wp p:Addr) (n:Int) (ws:List (List Int)) (wt dl:List Int),vs = [x,.ref wp,.ref p]/\Den K H (cW n ws) x/\cV (cW n ws)=true/\SqT K H wp (wt.map V.int)/\dl.length<=wt.length/\SqT K H p (dl.map V.int)/\dl.length<=100/\(∀ h∈dl,0<=h/\h < n)/\∀ p H',aE H H'->H p=none->H' p=some (.lst ((hps n dl wt dl.length).map V.int))->Q (.ref p) H'
theorem sF:FnScope ["book", "weights", "deal", "found", "at"] ["book", "weights", "deal"] (aH pE):=⟨rfl,rfl,rfl,by decide +kernel,rfl,by decide +kernel,by decide +kernel⟩
theorem aBp {f:Addr} {fd:FuncData} (G:Fn K mg "_law_aheaps" pE ["book", "weights", "deal"] f fd) (B:Bl mg):FnOk P w K mg base CX0 1 f fd ["book", "weights", "deal"] (sD K):=by
 refine G.fn.ok sF (fun vs H Q E h=>?_) (fun cdv A outer s H vs Q E hr h=>?_)
 ·obtain ⟨x,wp,p,n,ws,wt,b,rfl,_⟩:=h
  rfl
 ·obtain ⟨x,wp,p,n,ws,wt,b,rfl,hx,hbk,hw,hbw,hp,hb100,hin,k⟩:=h
  refine ⟨_,(aF (aT (i:=3) sF.nd rfl (Or.inl rfl) (aZ aBE (eO (aA aI aC)) (aV bB (pv 0) aI (fun _ _=>rfl))))
  (aF (eJ PassesOwn.never rfl (cK rfl B.range (aA (aQ aU rfl B.len eZ (aA (pv 2) aC)) aC)) (aL (i:=4) sF.nd rfl (Or.inl rfl))
   (aJ (kW (aZ gN (aV dG (pv 3) (aV bB (pv 2) (pv 4) (fun _ _=>rfl)) (fun _ _=>rfl)) (aV bB (pv 1) (pv 4) (fun _ _=>rfl))) (xS (pv 3) (aV bB (pv 2) (pv 4) (fun _ _=>rfl)) mM))))
  (aJ (aY (pv 3))))),?_⟩
  obtain ⟨c,bb,ys,e,hc,hb1,hys1⟩:=iD hx
  cases e
  obtain ⟨hn1,hn6,h12,hwk⟩:=cX hbk
  refine ⟨sz1 _,fun p0 h0=>⟨_,rfl,c,_,0,.int n,rfl,rfl,(aE.new h0).seqT hc,rfl,p0,n,_,rfl,rfl,aB,by omega,by omega,bR (by show 1*n.toNat<=_; omega),fun tl htl=>?_⟩⟩
  rw [aBo n b wt]
  have s1:=(aE.new (o:=.lst [.int 0]) h0).trans (aE.new (o:=.lst ((hps n b wt 0).map V.int)) htl)
  have ntl:H tl=none:=(aE.new (o:=.lst [.int 0]) h0).free htl
  have e1:upd (upd H p0 (.lst [.int 0])) tl (.lst ((hps n b wt 0).map V.int)) tl=_:=aB
  generalize upd (upd H p0 (.lst [.int 0])) tl (.lst ((hps n b wt 0).map V.int))=H1 at s1 e1 ⊢
  dsimp only [bN]
  refine ⟨_,rfl,p,_,rfl,.inr (s1.seqT hp),?_⟩
  rw [Qa]
  refine ⟨b.length,rfl,by omega,by omega,iU (lo:=0) (n:=((b.length:Int)).toNat) (fun i σ H2=>(∃ v4,σ = [some (.ref c),some (.ref wp),some (.ref p),some (.ref tl),v4])/\aE H H2/\H2 tl=some (.lst ((hps n b wt i).map V.int))) ⟨⟨_,rfl⟩,s1,e1⟩ ?_ ?_⟩
  ·rintro i σ H2 hi ⟨⟨v4,rfl⟩,s2,e2⟩
   have hi':i < b.length:=by omega
   have hx2:b[i]?=some b[i]:=Qb hi'
   have hy2:wt[i]?=some (wt[i]'(by omega)):=Qb _
   generalize b[i]=h at hx2
   generalize (wt[i]'(by omega))=y at hy2
   obtain ⟨g0,g1⟩:=hin h (Qh hx2)
   have hci:atI (b.map V.int) (0+(i:Int))=some (.int h):=by rw [Xo]; exact cL (by rw [Qe,hx2]; rfl)
   have hwi:atI (wt.map V.int) (0+(i:Int))=some (.int y):=by rw [Xo]; exact cL (by rw [Qe,hy2]; rfl)
   refine ⟨_,rfl,_,rfl,_,rfl,p,_,_,_,rfl,rfl,s2.seqT hp,hci,tl,_,_,_,rfl,rfl,SqL.of e2,aCZ g0 g1,_,rfl,_,rfl,wp,_,_,_,rfl,rfl,s2.seqT hw,hwi,_,_,rfl,rfl,_,rfl,_,rfl,_,rfl,p,_,_,_,rfl,rfl,s2.seqT hp,hci,tl,_,h,h.toNat,rfl,rfl,e2,yX g0 (by rw [Qa,pM]; omega),⟨_,rfl⟩,s2.wr ntl,?_⟩
   rw [aB,<- aEb g0 g1 hx2 hy2,Qal]
  ·rintro σ H2 ⟨⟨v4,rfl⟩,s2,e2⟩
   rw [show ((b.length:Int)).toNat=b.length by omega] at e2
   exact ⟨_,rfl,k tl _ s2 ntl e2⟩
def sG (K:PySem.W.Frag):Sp:=fun vs H Q _=>∃ (x:V) (wp p:Addr) (n:Int) (ws:List (List Int)) (wt dl:List Int) (bs:bU),vs = [x,.ref wp,.ref p]/\Den K H (cW n ws) x/\cV (cW n ws)=true/\SqT K H wp (wt.map V.int)/\rN ws wt/\SqT K H p (dl.map V.int)/\eI (aO n.toNat) (ws.zip wt) bs/\Rnd n ws wt bs dl/\∀ H',aE H H'->Q (.bl true) H'
theorem jH:FnScope ["book", "weights", "deal", "parts_here", "at", "mine", "heaps", "most", "hand"] ["book", "weights", "deal"] (aH lO):=⟨rfl,rfl,rfl,by decide +kernel,rfl,by decide +kernel,by decide +kernel⟩
theorem aBq {f fI fN fS fB fH fW:Addr} {fd dI dN dS dB dH dW:FuncData} (G:Fn K mg "_law_aright" lO ["book", "weights", "deal"] f fd) (B:Bl mg) (GIp:Fn K mg "in_parts" fO ["book", "weights"] fI dI) (OIp:FnOk P w K mg base CX0 9 fI dI ["book", "weights"] (lS K)) (GNm:Fn K mg "_law_ano_more" mY ["one", "other"] fN dN) (ONm:FnOk P w K mg base CX0 1 fN dN ["one", "other"] (rK K)) (GSu:Fn K mg "_law_asum" aAe ["some"] fS dS) (OSu:FnOk P w K mg base CX0 2 fS dS ["some"] (yU K))
  (GBl:Fn K mg "blocks" hX ["book", "weights"] fB dB) (OBl:FnOk P w K mg base CX0 7 fB dB ["book", "weights"] (nE K)) (GHe:Fn K mg "_law_aheaps" pE ["book", "weights", "deal"] fH dH) (OHe:FnOk P w K mg base CX0 1 fH dH ["book", "weights", "deal"] (sD K)) (GAh:Fn K mg "_law_awhole" pC ["found"] fW dW) (OAh:FnOk P w K mg base CX0 1 fW dW ["found"] rJ):FnOk P w K mg base CX0 10 f fd ["book", "weights", "deal"] (sG K):=by
 refine G.fn.ok jH (fun vs H Q E h=>?_) (fun cdv A outer s H vs Q E hr h=>?_)
 ·obtain ⟨x,wp,p,n,ws,wt,dl,bs,rfl,_⟩:=h
  rfl
 ·obtain ⟨x,wp,p,n,ws,wt,dl,bs,rfl,hx,hbk,hwp,hwt,hp,hbl,RD,k⟩:=h
  have r9:Room 9 _:=hr
  have r7:Room 7 _:=hr.mono (by decide)
  have r2:Room 2 _:=hr.mono (by decide)
  have r1:Room 1 _:=hr.mono (by decide)
  refine ⟨_,(aF (fF (PW.pt (oI (gX (fZ (aQ fJ rfl B.isinstance mU (aA (pv 2) (aA (iQ (v:=.ty "tuple") rfl B.tuple gG rfl) aC))))) (mB (bO zO (aQ aU rfl B.len eZ (aA (pv 2) aC)) (aQ aU rfl B.len eZ (aA (aV bB (pv 0) aI (fun _ _=>rfl)) aC)) (cG _)))))
   (aJ (aY jI))
   bX)
  (aF (fF (bO nM jI (cO (own:=["at"]) (fr:=[0,2]) (frn:=["book", "deal"]) (aX (aH lO) ["book", "weights", "deal", "parts_here", "at", "mine", "heaps", "most", "hand"] rfl rfl (by decide +kernel)) rfl (cK rfl B.range (aA (aQ aU rfl B.len eZ (aA (pv 2) aC)) aC))
    (fun _ _ _ _=>(aL (i:=0) (show (["at", "book", "deal"]:List Str).Nodup by decide +kernel) rfl (Or.inl rfl))) (fun _ _ _ _=>cZ)
    (fun _ _ _ _=>(pO (bF GAh OAh r1 rfl (aA (aV (gQ (K:=K) rfl) (pv 2) (pv 0) (fun _ _=>rfl)) aC)) (pN (lJ (qV (K:=K) rfl) (aV (gQ (K:=K) rfl) (pv 2) (pv 0) (fun _ _=>rfl)) (aV (gQ (K:=K) rfl) (aV (gQ (K:=K) rfl) (pv 1) aI (fun _ _=>rfl)) (pv 0) (fun _ _=>rfl)) (by with_unfolding_all rfl)))))) (by with_unfolding_all rfl))
   (aJ (aY jI))
   bX)
  (aF (aT (i:=3) jH.nd rfl (Or.inr rfl) (aV bB (bF GIp OIp r9 rfl (aA (pv 0) (aA (pv 1) aC))) aI (fun _ _=>rfl)))
  (aF (eJ PassesOwn.never rfl (cK rfl B.range (aA (aQ aU rfl B.len eZ (aA (pv 2) aC)) aC)) (aL (i:=4) jH.nd rfl (Or.inl rfl))
   (aJ (fF (bO lV (aV bB (pv 1) (pv 4) (fun _ _=>rfl)) aI (cG _))
   (aF (aT (i:=5) jH.nd rfl (Or.inr rfl) (aV bB (pv 3) (aV bB (pv 2) (pv 4) (fun _ _=>rfl)) (fun _ _=>rfl)))
  (aJ (fF (bO (aEX hr.u64) (cO (own:=["hand"]) (fr:=[5,3]) (frn:=["mine", "parts_here"]) (aX (aH lO) ["book", "weights", "deal", "parts_here", "at", "mine", "heaps", "most", "hand"] rfl rfl (by decide +kernel)) rfl (iK (aV bB (aV bB (pv 0) aI (fun _ _=>rfl)) (pv 4) (fun _ _=>rfl)))
    (fun _ _ _ _=>(aL (i:=0) (show (["hand", "mine", "parts_here"]:List Str).Nodup by decide +kernel) rfl (Or.inl rfl))) (fun _ _ _ _=>kH (gX (fZ (bF GNm ONm r1 rfl (aA (pv 1) (aA (aV (gQ (K:=K) rfl) (pv 2) (pv 0) (fun _ _=>rfl)) aC))))))
    (fun _ _ _ _=>(pv 0))) (eO aC) (cG _))
   (aJ (aY jI))
   bX)))
   bX)))
  (aF (aT (i:=6) jH.nd rfl (Or.inl rfl) (bF GHe OHe r1 rfl (aA (pv 0) (aA (pv 1) (aA (pv 2) aC)))))
  (aF (aT (i:=7) jH.nd rfl (Or.inl rfl) (aQ (yJ (K:=K) rfl rfl) rfl B.max zX (aA (aZ (zT) (pv 1) (cU (aA aI aC))) aC)))
  (aF (fF (bO sY (pv 7) aI (cG _))
   (aJ (aY (lJ sY (aQ (qI (K:=K) rfl rfl) rfl B.max zX (aA (pv 6) aC)) aI (cG _))))
   bX)
  (aF (eJ PassesOwn.never rfl (cK rfl B.range (aA (aV bB (pv 0) aI (fun _ _=>rfl)) aC)) (aL (i:=8) jH.nd rfl (Or.inl rfl))
   (aJ (fF (fZ (bF GNm ONm r1 rfl (aA (bF GSu OSu r2 rfl (aA (eO (aA (aV bB (pv 3) (pv 8) (fun _ _=>rfl)) (aA (cU (aA (pv 7) (aA aI aC))) aC))) aC)) (aA (cU (aA (aV dG (pv 6) (pv 8) (fun _ _=>rfl)) (aA aI aC))) aC))))
   (aJ (aY jI))
   bX)))
  (aJ (aY (xR (bF GNm ONm r1 rfl (aA (bF GSu OSu r2 rfl (aA (eO (aA (aV bB (aV dG (bF GBl OBl r7 rfl (aA (pv 0) (aA (pv 1) aC))) aI (fun _ _=>rfl)) aI (fun _ _=>rfl)) (aA (cU (aA (pv 7) (aA aI aC))) aC))) aC)) (aA (cU (aA (aQ (qI (K:=K) rfl rfl) rfl B.max zX (aA (pv 6) aC)) (aA aI aC))) aC)))))))))))))),?_⟩
  obtain ⟨a,b,ys,rfl,ha,hb,hys⟩:=iD hx
  have hly:=aM hys
  rw [Qa] at hly
  obtain ⟨hn1,hn6,h12,hws⟩:=cX hbk
  obtain ⟨RO,RS,RL⟩:=kD hbk hwt
  obtain ⟨hwl,hwb⟩:=id hwt
  have hdl:=RD.len
  refine ⟨_,rfl,.ref p,.tup,rfl,(aEt hp).kd,_,rfl,kY ?_⟩
  refine ⟨_,rfl,p,_,rfl,.inr hp,_,rfl,a,_,1,.ref b,rfl,rfl,ha,rfl,b,ys,rfl,.inr hb,rfl,_,rfl,tT (by rw [Qa,hdl,hly]; exact aAp _) ?_⟩
  have wkAt:∀ i,i < ws.length->∃ d l al,dl[i]?=some d/\ws[i]?=some l/\ys[i]?=some (.ref al)/\SqT K H al (l.map V.int)/\d∈l/\0<=d/\d < n/\∀ o∈l,0<=o/\o < n:=fun i hi=>by
   have h1:=Qb (show i < dl.length by omega)
   have h2:=Qb hi
   have h3:=Qb (show i < ys.length by omega)
   generalize dl[i]'(by omega)=d at h1
   generalize ws[i]=l at h2
   generalize ys[i]'(by omega)=y at h3
   obtain ⟨l',hl',hld⟩:=cE hys h3
   rw [h2] at hl'
   cases hl'
   obtain ⟨al,rfl,hal⟩:=cM.mp hld
   have hm:=RD.able i d l h1 h2
   have c2:=(gJ (hws l (Qh h2))).2.1
   exact ⟨d,l,al,h1,h2,h3,hal,hm,(c2 d hm).1,(c2 d hm).2,c2⟩
  have dlr:∀ h∈dl,0<=h/\h < n:=fun h hh=>by
   obtain ⟨i,hi⟩:=Jx.mp hh
   obtain ⟨d,l,al,h1,_,_,_,_,d0,d1,_⟩:=wkAt i (by have:=(Qd.mp hi).1; omega)
   rw [hi] at h1
   cases h1
   exact ⟨d0,d1⟩
  -- able hands
  refine ⟨_,rfl,p,_,rfl,.inr hp,?_⟩
  rw [Qa]
  refine ⟨dl.length,rfl,by omega,by omega,fM (lo:=0) (n:=((dl.length:Int)).toNat) (fun σ=>∃ v,σ = [v,some (.ref a),some (.ref p)]) (fun i zs H2=>H2=H/\zs=(List.replicate i true).map V.bl) (bR (by omega)) ⟨none,rfl⟩ ⟨rfl,rfl⟩ (fun i zs H2 h=>by rw [h.2,Qa,Xi]; exact Qk _) ?_ ?_⟩
  ·rintro i zs σ H2 hi ⟨v,rfl⟩ ⟨rfl,rfl⟩ hz
   obtain ⟨d,l,al,h1,h2,h3,hal,hm,_⟩:=wkAt i (by omega)
   dsimp only [bN]
   rw [Xo]
   have hd:atI (dl.map V.int) (i:Int)=some (.int d):=cL (by rw [Qe,h1]; rfl)
   refine ⟨_,rfl,_,rfl,p,_,_,_,rfl,rfl,hp,hd,d,rfl,_,rfl,jY ?_⟩
   refine ⟨_,rfl,_,rfl,p,_,_,_,rfl,rfl,hp,hd,_,rfl,a,_,1,.ref b,rfl,rfl,ha,rfl,_,rfl,b,ys,_,_,rfl,rfl,hb,cL h3,al,_,rfl,.inr hal,rfl,lP _,hz,⟨_,rfl⟩,rfl,?_⟩
   rw [List.replicate_succ',Qt]
   show _++[V.bl (inV (.int d) (l.map V.int))]=_
   rw [uV,decide_eq_true hm]; rfl
  rintro zs H2 ⟨rfl,rfl⟩ l2 hl2
  have s2:=aE.new (o:=.lst ((List.replicate ((dl.length:Int)).toNat true).map V.bl)) hl2
  refine ⟨l2,_,rfl,.inl (SqL.of aB),rfl,aCY _,_,rfl,tT (aCX _) ?_⟩
  generalize upd H2 l2 (.lst ((List.replicate ((dl.length:Int)).toNat true).map V.bl))=H3 at s2 ⊢
  -- the parts
  refine ⟨_,rfl,_,rfl,_,n,ws,wp,wt,rfl,s2.den _ _ hx,hbk,s2.seqT hwp,hwt,fun q lp us sp zs bs' u H4 s4 hq hlp dlp nsp hsp dsp hbl' PT=>?_⟩
  have ebs:=rX RO hbl' hbl
  subst ebs
  refine ⟨q,_,0,.ref lp,rfl,rfl,hq,rfl,?_⟩
  dsimp only [bN]
  have s24:=s2.trans s4
  have lok:=aCO hbl hbk hwt
  have hul:=aM dlp
  rw [Qa,vE] at hul
  have ldAt:∀ h:Int,0<=h->h < n->∃ q,atI us h=some (.ref q)/\SqT K H4 q [.int (bM (bG bs' h)).1,.int (bM (bG bs' h)).2]/\nX (bM (bG bs' h))/\0<=(bM (bG bs' h)).1/\(bM (bG bs' h)).1<=100000/\(bM (bG bs' h)).2<=6/\0 < (bG bs' h).2:=fun h h0 h1=>by
   have hv:=Qb (show h.toNat < us.length by omega)
   generalize us[h.toNat]'(by omega)=v at hv
   obtain ⟨y,hy,hyd⟩:=cE dlp hv
   unfold ldL at hy
   have hu:=gD (show h.toNat < n.toNat by omega)
   rw [Qe,hu,show ((h.toNat:Nat):Int)=h by omega] at hy
   have e:bM (bG bs' h)=y:=Option.some.inj hy
   rw [<- e] at hyd
   obtain ⟨q,rfl,hq⟩:=dU.mp hyd
   have hm:bM (bG bs' h)∈ldL n bs':=Jd.mpr ⟨h,bE.mpr (by omega),rfl⟩
   obtain ⟨o1,o2,o3,o4⟩:=lok _ hm
   exact ⟨q,nI h0 hv,hq,o1,o2,o3,o4,(xG hbl RO hn6 (bE.mpr (by omega))).2.1⟩
  refine ⟨_,rfl,p,_,rfl,.inr (s24.seqT hp),?_⟩
  rw [Qa]
  refine ⟨dl.length,rfl,by omega,by omega,iU (lo:=0) (n:=((dl.length:Int)).toNat) (fun i σ H5=>(∃ v4 v5 v6 v7 v8,σ = [some (.ref a),some (.ref wp),some (.ref p),some (.ref lp),v4,v5,v6,v7,v8])/\aE H4 H5) ⟨⟨_,_,_,_,_,rfl⟩,aE.refl _⟩ ?_ ?_⟩
  ·rintro i σ H5 hi ⟨⟨v4,v5,v6,v7,v8,rfl⟩,s5⟩
   obtain ⟨d,l,al,h1,h2,h3,hal,hm,d0,d1,lr⟩:=wkAt i (by omega)
   have s25:=s24.trans s5
   have hy:=Qb (show i < wt.length by omega)
   generalize wt[i]'(by omega)=y at hy
   have ey:wt.getD i 0=y:=by rw [Qn,hy]; rfl
   dsimp only [bN]
   rw [Xo]
   refine ⟨_,rfl,_,rfl,wp,_,_,_,rfl,rfl,s25.seqT hwp,cL (by rw [Qe,hy]; rfl),_,_,rfl,rfl,_,rfl,?_⟩
   refine gW (fun c=>?_) (fun c=>⟨⟨_,_,_,_,_,rfl⟩,s5⟩)
   have hpos:0 < y:=of_decide_eq_true c
   obtain ⟨mq,m1,m2,m3,_,_,_,mo⟩:=ldAt d d0 d1
   have hle:=RD.least i d l h1 h2 (by rw [ey]; exact hpos)
   refine ⟨_,rfl,_,rfl,_,rfl,p,_,_,_,rfl,rfl,s25.seqT hp,cL (v:=.int d) (by rw [Qe,h1]; rfl),lp,us,d,.ref mq,rfl,rfl,s5.seqT hlp,m1,?_⟩
   dsimp only [bN]
   refine ⟨_,rfl,a,_,1,.ref b,rfl,rfl,s25.seqT ha,rfl,_,rfl,b,ys,_,.ref al,rfl,rfl,s25.seqT hb,cL h3,al,rfl,⟨_,s25.seqT hal⟩,lB (K:=K) (a:=al) (xs:=l.map V.int) (fun σ=>∃ v,σ = [v,some (.ref mq),some (.ref lp)]) (fun j zs H6=>zs = []/\H6=H5) (bR (by rw [Qa]; have:=kO (n:=n) (by omega) lr (gJ (hws l (Qh h2))).2.2; omega)) ⟨none,rfl⟩ ⟨rfl,rfl⟩ (fun j zs H6 h=>by rw [h.1]; exact Jj _) (fun j zs H6 h=>by rw [h.2]; exact s25.seqT hal) ?_ ?_⟩
   ·rintro j zs σ x H6 hxj ⟨v,rfl⟩ ⟨rfl,rfl⟩ hz
    obtain ⟨o,ho,rfl⟩:=iA hxj
    obtain ⟨o0,o1⟩:=lr o (Qh ho)
    obtain ⟨oq,n1,n2,n3,_,_,_,no⟩:=ldAt o o0 o1
    dsimp only [bN]
    have hno:decide ((bM (bG bs' d)).1*(bM (bG bs' o)).2<=(bM (bG bs' o)).1*(bM (bG bs' d)).2)=true:=by
     have a1:=(Qy.mp hle).2
     have a2:(l.any fun o=>iN (bG bs' o) (bG bs' d))=false:=by simpa using a1
     have a3:=Wb.mp a2 o (Qh ho)
     rw [<- nC no mo] at a3
     have a4:¬ (bM (bG bs' o)).1*(bM (bG bs' d)).2 < (bM (bG bs' d)).1*(bM (bG bs' o)).2:=fun z=>a3 (decide_eq_true z)
     exact decide_eq_true (by omega)
    refine ⟨_,rfl,_,rfl,_,rfl,lp,us,o,.ref oq,rfl,rfl,s5.seqT hlp,n1,mq,oq,_,_,_,_,rfl,lF (s5.seqT m2) m3,lF (s5.seqT n2) n3,_,rfl,tT (by rw [hno]; rfl) ?_⟩
    exact ⟨⟨_,rfl⟩,rfl,rfl⟩
   ·rintro zs H6 ⟨rfl,rfl⟩ l3 hl3
    refine ⟨bR (Jj _),fun pe hpe=>?_⟩
    have s7:=(aE.new (o:=.lst []) hl3).trans (aE.new (o:=.lst []) hpe)
    refine ⟨.list [],.list [],lA.mpr ⟨l3,[],rfl,(aE.new hpe).seqL (SqL.of aB),aN.mpr rfl⟩,lA.mpr ⟨pe,[],rfl,SqL.of aB,aN.mpr rfl⟩,jP [],jP [],jQ [],jQ [],_,rfl,tT (by simp [PyData.eqv,PyData.eqvAll]) ?_⟩
    exact ⟨⟨_,_,_,_,_,rfl⟩,s5.trans s7⟩
  ·rintro σ H5 ⟨⟨v4,v5,v6,v7,v8,rfl⟩,s5⟩
   have s25:=s24.trans s5
   refine ⟨_,rfl,_,rfl,_,rfl,_,wp,p,n,ws,wt,dl,rfl,s25.den _ _ hx,hbk,s25.seqT hwp,by omega,s25.seqT hp,by omega,dlr,fun hq2 H6 s6 nhq ehq=>?_⟩
   dsimp only [bN]
   have s26:=s25.trans s6
   rw [hdl] at ehq
   refine ⟨_,rfl,sz1 _,fun pz hpz=>⟨wp,pz,_,_,rfl,rfl,(s26.trans (aE.new hpz)).seqT hwp,SqT.of aB,bR (by rw [Qa]; show wt.length+1<=1000; omega),fun pc H7 s7 hpc=>?_⟩⟩
   have s67:=(aE.new (o:=.tup [V.int 0]) hpz).trans s7
   have s27:=s26.trans s67
   refine ⟨pc,wt++[0],rfl,by rw [Qt]; exact hpc,by simp,fun M hM hmx=>?_⟩
   dsimp only [bN]
   have hM0:0<=M:=hmx 0 (Qj _ (Qo.mpr rfl))
   have hMx:∀ x∈wt,x<=M:=fun x hx=>hmx x (Jf _ hx)
   have hM9:M<=99:=by
    rcases Jm.mp hM with h | h
    ·exact (hwb M h).2
    ·rw [Qo.mp h]; decide
   have ehq7:=s67 _ _ ehq
   have s57:=s6.trans s67
   have hpn:∀ h,0<=hpI dl wt ws.length h:=fun h=>eU fun w _=>by
    have:0<=wt.getD w 0:=tV (fun x hx=>(hwb x hx).1) ((w:Nat):Int)
    split <;> omega
   have hp9:∀ h,hpI dl wt ws.length h<=12*99:=fun h=>by
    have:hpI dl wt ws.length h<=aD ((List.range ws.length).map fun _=>99):=cC fun w _=>by
     have:wt.getD w 0<=99:=by
      by_cases c:0 < Wt wt ((w:Nat):Int)
      ·exact (hwb _ (rY c)).2
      ·have:wt.getD w 0=Wt wt ((w:Nat):Int):=rfl
       omega
     split <;> omega
    rw [hU (c:=99) fun _ _=>rfl,Jp] at this
    omega
   refine ⟨_,rfl,rfl,_,rfl,?_⟩
   refine gW (fun c=>?_) (fun c=>?_)
   ·have eM:M=0:=by
     have:=of_decide_eq_true c
     injection this
    refine ⟨_,rfl,hq2,hps n dl wt ws.length,rfl,SqL.of ehq7,by rw [pM]; omega,fun M2 hM2 hmx2=>⟨rfl,?_⟩⟩
    have e2:M2=0:=by
     obtain ⟨h,hh,rfl⟩:=Jd.mp hM2
     refine bL fun w _=>?_
     have h1:0<=wt.getD w 0:=tV (fun x hx=>(hwb x hx).1) ((w:Nat):Int)
     have h2:¬ 0 < wt.getD w 0:=fun z=>by
      have:=hMx _ (rY (wt:=wt) (w:=((w:Nat):Int)) z)
      have e:Wt wt ((w:Nat):Int)=wt.getD w 0:=rfl
      omega
     split <;> omega
    show Q (.bl (decide (V.int M2=V.int 0))) H7
    rw [e2]
    exact k _ s27
   ·have hMp:0 < M:=by
     have:M≠0:=fun z=>c (by rw [z]; rfl)
     omega
    have bnd:∀ h:Int,0<=h->h < n->hpI dl wt ws.length h*(bM (bG bs' h)).2 < (bM (bG bs' h)).1+M*(bM (bG bs' h)).2:=fun h h0 h1=>by
     obtain ⟨_,_,_,o1,_,_,_,o5⟩:=ldAt h h0 h1
     have a1:60*hpI dl wt ws.length h < 60*M+gF bs' h:=RD.heap M h hMp hMx h0 h1
     have a2:gF bs' h=(bM (bG bs' h)).1*60 / (bM (bG bs' h)).2:=(aCN o5).symm
     have o2:=o1.1
     generalize (bM (bG bs' h)).1=A at a2
     generalize (bM (bG bs' h)).2=E at a2 o2
     have a3:=Wx (A*60) (show E≠0 by omega)
     rw [<- a2] at a3
     have a4:=Xt a1 o2
     rw [Xs,Ji,Ji] at a4
     generalize hpI dl wt ws.length h*E=q1 at a4
     generalize M*E=q2 at a4
     omega
    have fr1:∀ h,nX (hpI dl wt ws.length h,1):=fun h=>⟨show (0:Int) < 1 by decide,show (1:Int) < 2^200 by decide,Jy (show (hpI dl wt ws.length h).natAbs<=1188 by have:=hpn h; have:=hp9 h; omega) (by decide)⟩
    refine ⟨_,rfl,a,_,0,.int n,rfl,rfl,s27.seqT ha,rfl,n,rfl,by omega,by omega,iU (lo:=0) (n:=n.toNat) (fun i σ H8=>(∃ v4 v5 v8,σ = [some (.ref a),some (.ref wp),some (.ref p),some (.ref lp),v4,v5,some (.ref hq2),some (.int M),v8])/\aE H7 H8) ⟨⟨_,_,_,rfl⟩,aE.refl _⟩ ?_ ?_⟩
    ·rintro i σ H8 hi ⟨⟨v4',v5',v8',rfl⟩,s8⟩
     dsimp only [bN]
     rw [Xo]
     obtain ⟨q1,g1,g2,g3,g4,g5,g6,g7⟩:=ldAt i (by omega) (by omega)
     have s48:=s5.trans (s57.trans s8)
     refine ⟨_,rfl,_,rfl,lp,us,_,.ref q1,rfl,rfl,s48.seqT hlp,g1,_,rfl,sz2 _ _,fun t1 ht1=>?_⟩
     have sa:=aE.new (o:=.tup [V.int M,V.int 1]) ht1
     have ea:upd H8 t1 (.tup [V.int M,V.int 1]) t1=_:=aB
     generalize upd H8 t1 (.tup [V.int M,V.int 1])=H9 at sa ea ⊢
     refine ⟨sz2 _ _,fun l1 hl1=>?_⟩
     have sb:=aE.new (o:=.lst [V.ref q1,V.ref t1]) hl1
     have eb:upd H9 l1 (.lst [V.ref q1,V.ref t1]) l1=_:=aB
     generalize upd H9 l1 (.lst [V.ref q1,V.ref t1])=H10 at sb eb ⊢
     have s4a:=s48.trans (sa.trans sb)
     refine ⟨l1,[.ref q1,.ref t1],[bM (bG bs' i),(M,1)],rfl,SqL.of eb,aK.mpr ⟨_,_,rfl,dU.mpr ⟨q1,rfl,s4a.seqT g2⟩,aK.mpr ⟨_,_,rfl,dU.mpr ⟨t1,rfl,SqT.of (sb _ _ ea)⟩,aN.mpr rfl⟩⟩,pX g3 g4 g5 g6 hM0 hM9,fun sp2 H11 s11 hsp2=>?_⟩
     have s8b:=(sa.trans sb).trans s11
     refine ⟨_,rfl,_,rfl,hq2,_,_,_,rfl,rfl,SqL.of ((s8.trans s8b) _ _ ehq7),aCZ (by omega) (by omega),sz2 _ _,fun t2 ht2=>?_⟩
     have sc:=aE.new (o:=.tup [V.int (hpI dl wt ws.length i),V.int 1]) ht2
     have ec:upd H11 t2 (.tup [V.int (hpI dl wt ws.length i),V.int 1]) t2=_:=aB
     generalize upd H11 t2 (.tup [V.int (hpI dl wt ws.length i),V.int 1])=H12 at sc ec ⊢
     have f2:nX (kT [bM (bG bs' i),(M,1)]):=(pX g3 g4 g5 g6 hM0 hM9).2 2
     have f3:=fr1 i
     refine ⟨sp2,t2,_,_,_,_,rfl,lF (sc.seqT hsp2) f2,lF (x:=(hpI dl wt ws.length i,1)) (SqT.of ec) f3,_,rfl,tT (aC0 g3.1 (bnd i (by omega) (by omega))) ?_⟩
     exact ⟨⟨_,_,_,rfl⟩,s8.trans (s8b.trans sc)⟩
    ·rintro σ H8 ⟨⟨v4',v5',v8',rfl⟩,s8⟩
     cases hbs:bs' with
     | nil =>
      rw [hbs] at hbl
      have:aO n.toNat = []:=hbl
      have:=congrArg Yp this
      rw [bH] at this
      exact absurd this (by show ¬ n.toNat=0; omega)
     | cons b0 bs1 =>
      have hbe:=hbl
      rw [hbs] at hbe
      obtain ⟨ne0,_,_,in0⟩:=nB RO hbe b0 (Qg ..)
      obtain ⟨h0,hh0⟩:=List.exists_mem_of_ne_nil _ ne0
      obtain ⟨z0,z1⟩:=bE.mp (in0 h0 hh0)
      have el:bG bs' h0=(b0.2,(b0.1.length:Int)):=by rw [hbs]; exact jR (fE.mpr hh0)
      obtain ⟨_,_,_,g3,g4,g5,g6,g7⟩:=ldAt h0 z0 (by omega)
      rw [el] at g3 g4 g5 g6 g7
      have s48:=s5.trans (s57.trans s8)
      have s28:=s27.trans s8
      refine ⟨_,rfl,_,rfl,_,n,ws,wp,wt,rfl,s28.den _ _ hx,hbk,s28.seqT hwp,hwt,fun bp us2 bs2 H9 s9 nbp ebp dbs hbl2 hul2=>?_⟩
      have e2:=rX RO hbl2 hbe
      subst e2
      rw [Jg] at dbs
      obtain ⟨v0,r0,rfl,dv0,_⟩:=aK.mp dbs
      obtain ⟨q0,xs0,rfl,hq0,dxs⟩:=bJ.mp dv0
      obtain ⟨x1,r1',rfl,_,dr1⟩:=aK.mp dxs
      obtain ⟨x2,r2',rfl,dx2,dr2⟩:=aK.mp dr1
      have er2:=aN.mp dr2
      subst er2
      obtain ⟨fq,rfl,hfq⟩:=dU.mp dx2
      refine ⟨bp,_,0,.ref q0,rfl,rfl,SqL.of ebp,cL (j:=0) rfl,q0,_,1,.ref fq,rfl,rfl,hq0,rfl,_,rfl,sz2 _ _,fun t1 ht1=>?_⟩
      have sa:=aE.new (o:=.tup [V.int M,V.int 1]) ht1
      have ea:upd H9 t1 (.tup [V.int M,V.int 1]) t1=_:=aB
      generalize upd H9 t1 (.tup [V.int M,V.int 1])=H10 at sa ea ⊢
      refine ⟨sz2 _ _,fun l1 hl1=>?_⟩
      have sb:=aE.new (o:=.lst [V.ref fq,V.ref t1]) hl1
      have eb:upd H10 l1 (.lst [V.ref fq,V.ref t1]) l1=_:=aB
      generalize upd H10 l1 (.lst [V.ref fq,V.ref t1])=H11 at sb eb ⊢
      refine ⟨l1,[.ref fq,.ref t1],[bM (b0.2,(b0.1.length:Int)),(M,1)],rfl,SqL.of eb,aK.mpr ⟨_,_,rfl,dU.mpr ⟨fq,rfl,(sa.trans sb).seqT hfq⟩,aK.mpr ⟨_,_,rfl,dU.mpr ⟨t1,rfl,SqT.of (sb _ _ ea)⟩,aN.mpr rfl⟩⟩,pX g3 g4 g5 g6 hM0 hM9,fun sp2 H12 s12 hsp2=>?_⟩
      have s7c:=s8.trans (s9.trans ((sa.trans sb).trans s12))
      refine ⟨_,rfl,hq2,hps n dl wt ws.length,rfl,SqL.of (s7c _ _ ehq7),by rw [pM]; omega,fun M2 hM2 hmx2=>?_⟩
      refine ⟨sz2 _ _,fun t2 ht2=>?_⟩
      have sc:=aE.new (o:=.tup [V.int M2,V.int 1]) ht2
      have ec:upd H12 t2 (.tup [V.int M2,V.int 1]) t2=_:=aB
      generalize upd H12 t2 (.tup [V.int M2,V.int 1])=H13 at sc ec ⊢
      obtain ⟨h,hh,rfl⟩:=Jd.mp hM2
      obtain ⟨y0,y1⟩:=bE.mp hh
      have hb1':=bnd h y0 (by omega)
      obtain ⟨_,_,_,k3,k4,k5,k6,k7⟩:=ldAt h y0 (by omega)
      have hfm:=zH hbe hh
      rw [<- hbs,<- nC g7 k7] at hfm
      have hfm2:¬ (bM (b0.2,(b0.1.length:Int))).1*(bM (bG bs' h)).2 < (bM (bG bs' h)).1*(bM (b0.2,(b0.1.length:Int))).2:=fun z=>by
       have:iN (bM (b0.2,(b0.1.length:Int))) (bM (bG bs' h))=true:=decide_eq_true z
       rw [this] at hfm; cases hfm
      have hfin:hpI dl wt ws.length h*(bM (b0.2,(b0.1.length:Int))).2 < (bM (b0.2,(b0.1.length:Int))).1+M*(bM (b0.2,(b0.1.length:Int))).2:=by
       have p1:=g3.1
       have p2:=k3.1
       generalize (bM (b0.2,(b0.1.length:Int))).1=X at hfm2 ⊢
       generalize (bM (b0.2,(b0.1.length:Int))).2=Y at hfm2 p1 ⊢
       generalize (bM (bG bs' h)).1=A at hfm2 hb1'
       generalize (bM (bG bs' h)).2=E at hfm2 hb1' p2
       have w1:=Xt hb1' p1
       refine Zu (a:=E) ?_ (Jn p2)
       rw [Xs] at w1 ⊢
       rw [Ju _ E Y,Ju M E Y] at w1
       omega
      have f2:nX (kT [bM (b0.2,(b0.1.length:Int)),(M,1)]):=(pX g3 g4 g5 g6 hM0 hM9).2 2
      refine ⟨sp2,t2,_,_,_,_,rfl,lF (sc.seqT hsp2) f2,lF (x:=(hpI dl wt ws.length h,1)) (SqT.of ec) (fr1 h),_,rfl,?_⟩
      have en:=aC0 g3.1 hfin
      rw [show decide ((kT [bM (b0.2,(b0.1.length:Int)),(M,1)]).1*(hpI dl wt ws.length h,(1:Int)).2<=(hpI dl wt ws.length h,(1:Int)).1*(kT [bM (b0.2,(b0.1.length:Int)),(M,1)]).2)=false from en]
      exact k _ (s27.trans (s7c.trans sc))
theorem aC1 {t:Addr} {H H':Hp} {o:HO} (h:H t=none) (b:But t (upd H t o) H'):aE H H':=fun c u e=>by
 have n:c≠t:=fun z=>by rw [z,h] at e; cases e
 exact b c u n (by rw [aG n]; exact e)
def aEd (K:PySem.W.Frag) (wt:List Int) (wp:Addr) (H:Hp) (x:V):Prop:=∃ (q bk:Addr) (n:Int) (ws:List (List Int)),x=.ref q/\SqT K H q [.ref bk,.ref wp]/\Den K H (cW n ws) (.ref bk)/\cV (cW n ws)=true/\SqT K H wp (wt.map V.int)/\rN ws wt
theorem aEd.same {K:PySem.W.Frag} {wt:List Int} {wp:Addr} {H H':Hp} {x:V} (h:aEd K wt wp H x) (s:aE H H'):aEd K wt wp H' x:=by
 obtain ⟨q,bk,n,ws,a,b,c,d,e,f⟩:=h
 exact ⟨q,bk,n,ws,a,s.seqT b,s.den _ _ c,d,s.seqT e,f⟩
def aAx (K:PySem.W.Frag) (Pt:Addr):Sp:=fun vs H Q _=>∃ (a:Addr) (ns:List Int),vs = [.ref a]/\SqL K H a (ns.map V.int)/\H Pt=some (.tab zE)/\∀ H',H' Pt=some (.tab zE)->Q (.bl true) H'
theorem oR:FnScope ["script", "start", "tape", "book", "weights", "turned", "some", "much"] ["script"] (aH aE4):=⟨rfl,rfl,rfl,by decide +kernel,rfl,by decide +kernel,by decide +kernel⟩
set_option maxHeartbeats 8000000 in
theorem aFm {f fT fB2 fWt fI fR Pt:Addr} {fd dT dB2 dWt dI dR:FuncData} (G:Fn K mg "law" aE4 ["script"] f fd) (B:Bl mg) (GTp:Fn K mg "_law_atape" aAc ["script", "k"] fT dT) (OTp:FnOk P w K mg base CX0 2 fT dT ["script", "k"] (aCo K)) (GB:Fn K mg "_law_abook" qR ["tape", "hands", "works"] fB2 dB2) (OB:FnOk P w K mg base CX0 2 fB2 dB2 ["tape", "hands", "works"] (aAl K))
  (GWt:Fn K mg "_law_aweights" aCf ["tape", "many"] fWt dWt) (OWt:FnOk P w K mg base CX0 2 fWt dWt ["tape", "many"] (aEu K)) (GRd:Fn K mg "rounded" gC ["book", "weights"] fI dI) (ORd:FnOk P w K mg base CX0 10 fI dI ["book", "weights"] (oH K Pt)) (GRi:Fn K mg "_law_aright" lO ["book", "weights", "deal"] fR dR) (ORi:FnOk P w K mg base CX0 10 fR dR ["book", "weights", "deal"] (sG K)):FnOk P w K mg base CX0 11 f fd ["script"] (aAx K Pt):=by
 refine G.fn.ok oR (fun vs H Q E h=>?_) (fun cdv A outer s H vs Q E hr h=>?_)
 ·obtain ⟨a,ns,rfl,_⟩:=h
  rfl
 ·obtain ⟨a,ns,rfl,hns,hT,k⟩:=h
  have r2:Room 2 _:=hr.mono (by decide)
  have r10:Room 10 _:=hr
  refine ⟨_,(aF (eJ PassesOwn.never rfl (aAC rfl B.range (aA aI (aA (aQ (aAD rfl) rfl B.max zX (aA aI (aA (aQ (tD rfl) rfl B.min aBS (aA aI (aA (aQ aU rfl B.len eZ (aA (pv 0) aC)) aC))) aC))) aC))) (aL (i:=1) oR.nd rfl (Or.inl rfl))
   (aF (aT (i:=2) oR.nd rfl (Or.inl rfl) (bF GTp OTp r2 rfl (aA (pv 0) (aA (pv 1) aC))))
  (aF (aT (i:=3) oR.nd rfl (Or.inl rfl) (bF GB OB r2 rfl (aA (pv 2) (aA aI (aA aI aC)))))
  (aF (aT (i:=4) oR.nd rfl (Or.inl rfl) (bF GWt OWt r2 rfl (aA (pv 2) (aA (aQ aU rfl B.len eZ (aA (aV bB (pv 3) aI (fun _ _=>rfl)) aC)) aC))))
  (aF (aT (i:=5) oR.nd rfl (Or.inl rfl) (cU (aA (aV bB (pv 3) aI (fun _ _=>rfl)) (aA (aEY (aV bB (pv 3) aI (fun _ _=>rfl)) (aBw xW aI)) aC))))
  (aJ (eJ PassesOwn.never rfl (cY (eO (aA (cU (aA (pv 5) (aA (pv 4) aC))) (aA (cU (aA (pv 3) (aA (pv 4) aC))) aC)))) (iX rfl (aW (aL (i:=6) oR.nd rfl (Or.inl rfl)) (aW (aL (i:=7) oR.nd rfl (Or.inl rfl)) dF)))
   (aJ (fF (gX (fZ (bF GRi ORi r10 rfl (aA (pv 6) (aA (pv 7) (aA (bF GRd ORd r10 rfl (aA (pv 6) (aA (pv 7) aC))) aC))))))
   (aJ (aY jI))
   bX)))))))))
  (aJ (aY jI))),?_⟩
  have hM:∀ m:Int,0<=m->0<=(if (if m < 2 then m else 2) > 1 then (if m < 2 then m else 2) else 1)/\(if (if m < 2 then m else 2) > 1 then (if m < 2 then m else 2) else 1)<=2:=fun m hm=>by split <;> split <;> omega
  have hM':=hM ((ns.map V.int).length:Int) (by omega)
  refine ⟨_,rfl,a,_,rfl,.inl hns,_,_,rfl,_,_,rfl,0,_,rfl,⟨by decide,by decide,by omega,by omega⟩,iU (lo:=0) (fun i σ H1=>(∃ v1 v2 v3 v4 v5 v6 v7,σ = [some (.ref a),v1,v2,v3,v4,v5,v6,v7])/\SqL K H1 a (ns.map V.int)/\H1 Pt=some (.tab zE)) ⟨⟨_,_,_,_,_,_,_,rfl⟩,hns,hT⟩ ?_ ?_⟩
  ·rintro i σ H1 hi ⟨⟨v1,v2,v3,v4,v5,v6,v7,rfl⟩,hs1,hT1⟩
   refine ⟨_,rfl,_,rfl,a,ns,i,by rw [Xo]; rfl,hs1,fun t n0 ht=>?_⟩
   have bS:∀ {H':Hp},But t (upd H1 t (.lst [.int n0])) H'->aE H1 H':=fun b=>aC1 ht b
   have T2:iF K (upd H1 t (.lst [.int n0])) t a ns:=⟨_,aB⟩
   generalize upd H1 t (.lst [.int n0])=H2 at T2 bS ⊢
   dsimp only [bN]
   refine ⟨_,rfl,t,a,ns,6,12,rfl,T2,by decide,by decide,by decide,by decide,fun n ws bk H5 hb hn hlen b5 T5 hbk=>?_⟩
   dsimp only [bN]
   obtain ⟨c,bb,ys,e,hc,hb1,hys1⟩:=iD hbk
   cases e
   have hly:=aM hys1
   rw [Qa] at hly
   obtain ⟨hn1,hn6,h12,hwk⟩:=cX hb
   refine ⟨_,rfl,_,rfl,bk,_,1,.ref bb,rfl,rfl,hc,rfl,bb,ys,rfl,.inr hb1,t,a,ns,ws.length,by rw [hly]; rfl,T5,by omega,fun wt wp H7 hwl hwb b7 T7 hwp=>?_⟩
   dsimp only [bN]
   have hc7:=T5.seqT b7 hc
   have hb7:=T5.seqT b7 hb1
   have hys7:=T5.denAll b7 (fQ _ iE ws) hys1
   have hbk7:Den K H7 (cW n ws) (.ref bk):=nV hc7 hb7 hys7
   have hwt:rN ws wt:=⟨hwl,hwb⟩
   refine ⟨_,rfl,bk,_,0,.int n,rfl,rfl,hc7,rfl,_,rfl,bk,_,1,.ref bb,rfl,rfl,hc7,rfl,_,rfl,rfl,bb,ys,rfl,hb7,fun rp hrp=>⟨sz2 _ _,fun tp htp=>?_⟩⟩
   have s8:=(aE.new (o:=.tup ys.reverse) hrp).trans (aE.new (o:=.tup [.int n,.ref rp]) htp)
   have D8:Den K (upd (upd H7 rp (.tup ys.reverse)) tp (.tup [.int n,.ref rp])) (cW n ws.reverse) (.ref tp):=by
    refine nV (SqT.of aB) ((aE.new htp).seqT (SqT.of aB)) ?_
    refine nY (by simp [hly]) fun j d z h1 h2=>?_
    have hj:j < ws.length:=by have:=(Qd.mp h1).1; simpa using this
    rw [Yk (by omega)] at h2
    rw [Qe,Yk hj] at h1
    obtain ⟨d',g1,g2⟩:=iV (s8.denAll _ _ hys7) h2
    rw [Qe,hly,h1] at g1
    cases g1
    exact g2
   have hbr:cV (cW n ws.reverse)=true:=aAk hn1 hn6 (by rw [Zk]; exact h12) (fun l hl=>hwk l (List.mem_reverse.mp hl))
   generalize upd (upd H7 rp (.tup ys.reverse)) tp (.tup [.int n,.ref rp])=H8 at s8 D8 ⊢
   dsimp only [bN]
   refine ⟨_,rfl,_,rfl,sz2 _ _,fun q1 h1=>⟨_,rfl,_,rfl,sz2 _ _,fun q2 h2=>⟨sz2 _ _,fun l1 hl1=>?_⟩⟩⟩
   have u1:=aE.new (o:=.tup [.ref tp,.ref wp]) h1
   have u2:=aE.new (o:=.tup [.ref bk,.ref wp]) h2
   have u4:=aE.new (o:=.lst [.ref q1,.ref q2]) hl1
   have s12:=u1.trans (u2.trans u4)
   have E3:∀ x∈[V.ref q1,.ref q2],aEd K wt wp (upd (upd (upd H8 q1 (.tup [.ref tp,.ref wp])) q2 (.tup [.ref bk,.ref wp])) l1 (.lst [.ref q1,.ref q2])) x:=fun x hx=>by
    simp only [Qp,Ja,or_false] at hx
    rcases hx with rfl | rfl
    ·exact ⟨q1,tp,n,ws.reverse,rfl,(u2.trans u4).seqT (SqT.of aB),s12.den _ _ D8,hbr,(s8.trans s12).seqT hwp,by rw [Zk]; exact hwl,hwb⟩
    ·exact ⟨q2,bk,n,ws,rfl,u4.seqT (SqT.of aB),(s8.trans s12).den _ _ hbk7,hb,(s8.trans s12).seqT hwp,hwt⟩
   have e12:upd (upd (upd H8 q1 (.tup [.ref tp,.ref wp])) q2 (.tup [.ref bk,.ref wp])) l1 (.lst [.ref q1,.ref q2]) l1=some (.lst [.ref q1,.ref q2]):=aB
   have sA:aE H1 (upd (upd (upd H8 q1 (.tup [.ref tp,.ref wp])) q2 (.tup [.ref bk,.ref wp])) l1 (.lst [.ref q1,.ref q2])):=(bS (b5.trans b7)).trans (s8.trans s12)
   generalize upd (upd (upd H8 q1 (.tup [.ref tp,.ref wp])) q2 (.tup [.ref bk,.ref wp])) l1 (.lst [.ref q1,.ref q2])=H12 at s12 E3 e12 sA ⊢
   refine ⟨l1,rfl,⟨_,SqL.of e12⟩,iY (K:=K) (a:=l1) (xs:=[V.ref q1,.ref q2]) (fun j σ H13=>(∃ v6 v7,σ = [some (.ref a),some (.int (0+(i:Int))),some (.ref t),some (.ref bk),some (.ref wp),some (.ref tp),v6,v7])/\aE H12 H13) ⟨⟨_,_,rfl⟩,aE.refl _⟩ (fun j σ H13 _ ⟨_,s13⟩=>SqL.of (s13 _ _ e12)) ?_ ?_⟩
   ·rintro j x σ H13 hx ⟨⟨v6,v7,rfl⟩,s13⟩
    obtain ⟨q,bk',n',ws',rfl,hq,hbk',hb',hwp',hwt'⟩:=(E3 x (Qh hx)).same s13
    refine ⟨q,_,rfl,hq,rfl,_,_,rfl,_,_,rfl,rfl,?_⟩
    refine ⟨_,rfl,_,rfl,_,rfl,_,rfl,_,n',ws',wp,wt,rfl,hbk',hb',hwp',hwt',(sA.trans s13) _ _ hT1,fun p dl bs H14 s14 hp hbl RD=>?_⟩
    refine ⟨_,wp,p,n',ws',wt,dl,bs,rfl,s14.den _ _ hbk',hb',s14.seqT hwp',hwt',hp,hbl,RD,fun H15 s15=>⟨_,rfl,kY ?_⟩⟩
    exact ⟨⟨_,_,rfl⟩,s13.trans (s14.trans s15)⟩
   ·rintro σ H13 ⟨⟨v6,v7,rfl⟩,s13⟩
    exact ⟨⟨_,_,_,_,_,_,_,rfl⟩,(sA.trans s13).seqL hs1,(sA.trans s13) _ _ hT1⟩
  ·rintro σ H1 ⟨⟨v1,v2,v3,v4,v5,v6,v7,rfl⟩,hs1,hT1⟩
   exact k _ hT1
end
end Ab
namespace Ab
open PySem L2 PyProof.Rows
theorem cJ {K:PySem.W.Frag} {h:Heap} {mg:Str->Option Value} (X:K.In h) (G:h.Ns mainGlobals mg) {x:Str} {st:Stmt} {ps:List Str} {f:Addr} {oc:Value} {od an:Option Addr} {osl:Array (Option Value)} {kV doc pm cdv ct:Value}
  (hb:∀ (kV doc pm:Value) (an:Option Addr) (cdv ct:Value) (us:List Value),us.length=ps.length->bindArgs (PySem.W.fnOf x x (jK st) (eY st) (aH st) .none kV doc pm an cdv ct) ⟨us,[]⟩=pure (ps.zip us))
  (a:PySem.W.nsIn K mainGlobals x=some (some (.ref f))) (l:K.lookup f=some ⟨oc,od,.func (PySem.W.fnOf x x (jK st) (eY st) (aH st) .none kV doc pm an cdv ct),osl⟩) (c:PySem.W.codeIn K cdv x=true) (k:PySem.W.keepIn K (.ref f)=true) :
  ∃ f fd,Fn K mg x st ps f fd:=by
 have F:=aBF (st:=st) l c k
 exact ⟨f,_,F,PySem.W.mg_of X G a,k,F.binds hb⟩
theorem aFn {K:PySem.W.Frag} {h:Heap} {mg:Str->Option Value} (X:K.In h) (G:h.Ns mainGlobals mg) {x:Str} {st:Stmt} {ps:List Str} {f:Addr} {oc:Value} {od an:Option Addr} {osl:Array (Option Value)} {kV doc pm cdv ct:Value}
  (hb:∀ (kV doc pm:Value) (an:Option Addr) (cdv ct:Value) (us:List Value),us.length=ps.length->bindArgs (PySem.W.fnOf x x (jK st) (eY st) (aH st) .none kV doc pm an cdv ct) ⟨us,[]⟩=pure (ps.zip us))
  (a:PySem.W.nsIn K mainGlobals x=some (some (.ref f))) (l:K.lookup f=some ⟨oc,od,.func (PySem.W.fnOf x x (jK st) (eY st) (aH st) .none kV doc pm an cdv ct),osl⟩) (c:PySem.W.codeIn K cdv x=true) (k:PySem.W.keepIn K (.ref f)=true) :
  ∃ f fd,Fn K mg x st ps f fd/\fd.code=cdv:=by
 have F:=aBF (st:=st) l c k
 exact ⟨f,_,⟨F,PySem.W.mg_of X G a,k,F.binds hb⟩,rfl⟩
theorem aGc {K:PySem.W.Frag} {h:Heap} {mg:Str->Option Value} (X:K.In h) (G:h.Ns mainGlobals mg) {t6 t12 t20 t21:Tok}
  (z0:PySem.W.nsIn K mainGlobals "isinstance" = some none)
  (z1:PySem.W.nsIn K mainGlobals "int" = some none)
  (z2:PySem.W.nsIn K mainGlobals "bool" = some none)
  (z3:PySem.W.nsIn K mainGlobals "tuple" = some none)
  (z4:PySem.W.nsIn K mainGlobals "list" = some none)
  (z5:PySem.W.nsIn K mainGlobals "len" = some none)
  (z6:PySem.W.nsIn K mainGlobals "all" = some none)
  (z7:PySem.W.nsIn K mainGlobals "zip" = some none)
  (z8:PySem.W.nsIn K mainGlobals "range" = some none)
  (z9:PySem.W.nsIn K mainGlobals "sorted" = some none)
  (z10:PySem.W.nsIn K mainGlobals "set" = some none)
  (z11:PySem.W.nsIn K mainGlobals "sum" = some none)
  (z12:PySem.W.nsIn K mainGlobals "repr" = some none)
  (z13:PySem.W.nsIn K mainGlobals "max" = some none)
  (z14:PySem.W.nsIn K mainGlobals "min" = some none)
  (z15:PySem.W.nsIn K mainGlobals "any" = some none)
  (z16:PySem.W.nsIn K mainGlobals "enumerate" = some none)
  (zA:PySem.W.nsIn K mainGlobals "MOST_HANDS" = some (some (.int 6 t6))) (zB:PySem.W.nsIn K mainGlobals "MOST_WORKS" = some (some (.int 12 t12))) (zK0:PySem.W.nsIn K mainGlobals "MOST_WEIGHT" = some (some (.int 99 t20))) (zK1:PySem.W.nsIn K mainGlobals "UNITS" = some (some (.int 60 t21))):Bl mg :=
 ⟨PySem.W.mg_none_of X G z0,PySem.W.mg_none_of X G z1,PySem.W.mg_none_of X G z2,PySem.W.mg_none_of X G z3,PySem.W.mg_none_of X G z4,PySem.W.mg_none_of X G z5,PySem.W.mg_none_of X G z6,PySem.W.mg_none_of X G z7,PySem.W.mg_none_of X G z8,PySem.W.mg_none_of X G z9,PySem.W.mg_none_of X G z10,PySem.W.mg_none_of X G z11,PySem.W.mg_none_of X G z12,PySem.W.mg_none_of X G z13,PySem.W.mg_none_of X G z14,PySem.W.mg_none_of X G z15,PySem.W.mg_none_of X G z16,⟨_,PySem.W.mg_of X G zA⟩,⟨_,PySem.W.mg_of X G zB⟩,⟨_,PySem.W.mg_of X G zK0⟩,⟨_,PySem.W.mg_of X G zK1⟩⟩
theorem aEe {l:PySem.W.OpenLaw} {w:World} {K:PySem.W.Frag} {mg:Str->Option Value} {fa c Pt:Addr} (hfa:mg "law" = some (.ref fa)) (B:Bl mg)
  (hPO:∃ f fd,Fn K mg "places_of" mW ["hand", "weights", "shares"] f fd/\fd.code=.ref c) (hZ:∀ base:Heap,base.BuiltinsAt mg Pt->Lm K mg base c Pt)
  (hW:∃ f fd,Fn K mg "is_whole" mG ["thing"] f fd)
  (hH:∃ f fd,Fn K mg "are_hands" qM ["thing"] f fd)
  (hKw:∃ f fd,Fn K mg "is_work" qN ["hands", "thing"] f fd)
  (hBP:∃ f fd,Fn K mg "is_book" qO ["thing"] f fd)
  (hNB:∃ f fd,Fn K mg "need_book" yL ["book"] f fd)
  (hCM:∃ f fd,Fn K mg "common" pA ["a", "b"] f fd)
  (hLO:∃ f fd,Fn K mg "lowest" kL ["a", "b"] f fd)
  (hPL:∃ f fd,Fn K mg "plus" zZ ["one", "other"] f fd)
  (hIL:∃ f fd,Fn K mg "is_less" aAa ["one", "other"] f fd)
  (hAW:∃ f fd,Fn K mg "are_weights" qP ["book", "thing"] f fd)
  (hNW:∃ f fd,Fn K mg "need_weights" pB ["book", "weights"] f fd)
  (hWI:∃ f fd,Fn K mg "is_within" lN ["able", "some"] f fd)
  (hST:∃ f fd,Fn K mg "sets_of" wQ ["hands"] f fd)
  (hHV:∃ f fd,Fn K mg "heaviest" kA ["hands", "rows"] f fd)
  (hBK:∃ f fd,Fn K mg "blocks" hX ["book", "weights"] f fd)
  (hRC:∃ f fd,Fn K mg "reached" mV ["rows", "first"] f fd)
  (hWY:∃ f fd,Fn K mg "way_to" uO ["found", "last"] f fd)
  (hHA:∃ f fd,Fn K mg "handing_parts" qQ ["takers", "held", "many"] f fd)
  (hSP:∃ f fd,Fn K mg "spread" iR ["takers", "amounts", "rooms"] f fd)
  (hLL:∃ f fd,Fn K mg "least_loaded" kM ["able", "loads"] f fd)
  (hPA:∃ f fd,Fn K mg "part_loads" nU ["book", "weights"] f fd)
  (hIP:∃ f fd,Fn K mg "in_parts" fO ["book", "weights"] f fd)
  (hRO:∃ f fd,Fn K mg "rounded" gC ["book", "weights"] f fd)
  (hCE:∃ f fd,Fn K mg "_law_acell" aAb ["script", "k"] f fd)
  (hTA:∃ f fd,Fn K mg "_law_atape" aAc ["script", "k"] f fd)
  (hDG:∃ f fd,Fn K mg "_law_adigit" mX ["tape", "many"] f fd)
  (hAH:∃ f fd,Fn K mg "_law_awhole" pC ["found"] f fd)
  (hAL:∃ f fd,Fn K mg "_law_alow" aAd ["a", "b"] f fd)
  (hSU:∃ f fd,Fn K mg "_law_asum" aAe ["some"] f fd)
  (hNM:∃ f fd,Fn K mg "_law_ano_more" mY ["one", "other"] f fd)
  (hAB:∃ f fd,Fn K mg "_law_abook" qR ["tape", "hands", "works"] f fd)
  (hWT:∃ f fd,Fn K mg "_law_aweights" aCf ["tape", "many"] f fd)
  (hHE:∃ f fd,Fn K mg "_law_aheaps" pE ["book", "weights", "deal"] f fd)
  (hRI:∃ f fd,Fn K mg "_law_aright" lO ["book", "weights", "deal"] f fd)
  (hLW:∃ f fd,Fn K mg "law" aE4 ["script"] f fd)
  : ∃ fd:FuncData,(∀ (s:Shared) (v:Value),BindsTo s fd ⟨[v],[]⟩ [("script",v)])/\∀ base:Heap,K.In base->base.Ns mainGlobals mg->base.BuiltinsAt mg Pt->FnOk l.prog w K mg base CX0 11 fa fd ["script"] (aAx K Pt):=by
 obtain ⟨fPO,dPO,PO,hc⟩:=hPO
 obtain ⟨fW,dW,W⟩:=hW
 obtain ⟨fH,dH,H⟩:=hH
 obtain ⟨fKw,dKw,Kw⟩:=hKw
 obtain ⟨fBP,dBP,BP⟩:=hBP
 obtain ⟨fNB,dNB,NB⟩:=hNB
 obtain ⟨fCM,dCM,CM⟩:=hCM
 obtain ⟨fLO,dLO,LO⟩:=hLO
 obtain ⟨fPL,dPL,PL⟩:=hPL
 obtain ⟨fIL,dIL,IL⟩:=hIL
 obtain ⟨fAW,dAW,AW⟩:=hAW
 obtain ⟨fNW,dNW,NW⟩:=hNW
 obtain ⟨fWI,dWI,WI⟩:=hWI
 obtain ⟨fST,dST,ST⟩:=hST
 obtain ⟨fHV,dHV,HV⟩:=hHV
 obtain ⟨fBK,dBK,BK⟩:=hBK
 obtain ⟨fRC,dRC,RC⟩:=hRC
 obtain ⟨fWY,dWY,WY⟩:=hWY
 obtain ⟨fHA,dHA,HA⟩:=hHA
 obtain ⟨fSP,dSP,SP⟩:=hSP
 obtain ⟨fLL,dLL,LL⟩:=hLL
 obtain ⟨fPA,dPA,PA⟩:=hPA
 obtain ⟨fIP,dIP,IP⟩:=hIP
 obtain ⟨fRO,dRO,RO⟩:=hRO
 obtain ⟨fCE,dCE,CE⟩:=hCE
 obtain ⟨fTA,dTA,TA⟩:=hTA
 obtain ⟨fDG,dDG,DG⟩:=hDG
 obtain ⟨fAH,dAH,AH⟩:=hAH
 obtain ⟨fAL,dAL,AL⟩:=hAL
 obtain ⟨fSU,dSU,SU⟩:=hSU
 obtain ⟨fNM,dNM,NM⟩:=hNM
 obtain ⟨fAB,dAB,AB⟩:=hAB
 obtain ⟨fWT,dWT,WT⟩:=hWT
 obtain ⟨fHE,dHE,HE⟩:=hHE
 obtain ⟨fRI,dRI,RI⟩:=hRI
 obtain ⟨fLW,dLW,LW⟩:=hLW
 have e:=hfa.symm.trans LW.mgx
 cases e
 have R:Pr K mg fW fH fKw fBP fNB dW dH dKw dBP dNB:=⟨W,H,Kw,BP,NB⟩
 refine ⟨dLW,fun s v=>?_,fun base _ _ hBu=>?_⟩
 ·obtain ⟨oc,od,kV,doc,pm,an,cdv,ct,osl,rfl,lk,hcd⟩:=LW.fn.ex
  exact .of_eq rfl
 ·have Z:=hZ base hBu
  have ODG:FnOk l.prog w K mg base CX0 1 fDG dDG ["tape", "many"] (pH K):=aCp DG B
  have OLO:FnOk l.prog w K mg base CX0 2 fLO dLO ["a", "b"] (gR):=aA8 LO B CM
  have OPL:FnOk l.prog w K mg base CX0 3 fPL dPL ["one", "other"] (yS K):=aDN PL B LO OLO
  have OIL:FnOk l.prog w K mg base CX0 1 fIL dIL ["one", "other"] (yT K):=aDO IL
  have OAW:FnOk l.prog w K mg base CX0 5 fAW dAW ["book", "thing"] (uX K):=aCB AW B R
  have ONW:FnOk l.prog w K mg base CX0 6 fNW dNW ["book", "weights"] (rP K):=aBd NW AW OAW
  have OWI:FnOk l.prog w K mg base CX0 1 fWI dWI ["able", "some"] (nD K):=aBe WI B
  have OST:FnOk l.prog w K mg base CX0 1 fST dST ["hands"] (yV K):=aDT ST B
  have OHV:FnOk l.prog w K mg base CX0 2 fHV dHV ["hands", "rows"] (yW K):=aDU HV B ST OST WI OWI
  have OBK:FnOk l.prog w K mg base CX0 7 fBK dBK ["book", "weights"] (nE K):=aBf BK B NW ONW HV OHV LO OLO WI OWI
  have ORC:FnOk l.prog w K mg base CX0 1 fRC dRC ["rows", "first"] (oC K):=yY RC B
  have OWY:FnOk l.prog w K mg base CX0 1 fWY dWY ["found", "last"] (uZ K):=aCH WY B
  have OHA:FnOk l.prog w K mg base CX0 1 fHA dHA ["takers", "held", "many"] (vB K):=aCI HA B
  have OSP:FnOk l.prog w K mg base CX0 2 fSP dSP ["takers", "amounts", "rooms"] (nG K):=aBg SP B RC ORC WY OWY HA OHA
  have OLL:FnOk l.prog w K mg base CX0 2 fLL dLL ["able", "loads"] (rS K):=aBi LL B IL OIL
  have OPA:FnOk l.prog w K mg base CX0 8 fPA dPA ["book", "weights"] (vD K):=aCL PA B BK OBK
  have OIP:FnOk l.prog w K mg base CX0 9 fIP dIP ["book", "weights"] (lS K):=yZ IP B PA OPA LL OLL SP OSP LO OLO
  have OPO:FnOk l.prog w K mg base CX0 4 fPO dPO ["hand", "weights", "shares"] (rZ K Pt):=aBn PO hc Z B PL OPL LO OLO
  have ORO:FnOk l.prog w K mg base CX0 10 fRO dRO ["book", "weights"] (oH K Pt):=zG RO B IP OIP SP OSP PO OPO
  have OAH:FnOk l.prog w K mg base CX0 1 fAH dAH ["found"] (rJ):=aBa AH B
  have OAL:FnOk l.prog w K mg base CX0 1 fAL dAL ["a", "b"] (gR):=aDP AL
  have OSU:FnOk l.prog w K mg base CX0 2 fSU dSU ["some"] (yU K):=aDQ SU AL OAL
  have ONM:FnOk l.prog w K mg base CX0 1 fNM dNM ["one", "other"] (rK K):=aBc NM
  have OHE:FnOk l.prog w K mg base CX0 1 fHE dHE ["book", "weights", "deal"] (sD K):=aBp HE B
  have ORI:FnOk l.prog w K mg base CX0 10 fRI dRI ["book", "weights", "deal"] (sG K):=aBq RI B IP OIP NM ONM SU OSU BK OBK HE OHE AH OAH
  exact aFm LW B TA (aDI TA B CE) AB (aCq AB B DG ODG) WT (aFf WT B DG ODG) RO ORO RI ORI
theorem walk {l:PySem.W.OpenLaw} {q:Program} {loose:List Str} {XP:(Str->Option Value)->Heap->Prop} {YP:World->Heap->Prop} {d:DefRec} {K:Params->PySem.W.Frag} {c Pt:Addr} (hn:l.most=some 63) (hdf:d.params.defaults = []) (hq:importsNone q=true)
  (hY:∀ (w:World) (h:Heap),YP w h->(K w.params).In h) (hT:∀ (w:World) (h:Heap),YP w h->h.get? Pt=some (PySem.W.tabObj #[]))
  (F:(∀ w:World,PySem.W.codeHdIn (K w.params) c Pt=true)->∀ (w:World) (mg:Str->Option Value) (fa:Addr) (h:Heap),(K w.params).In h->h.Ns mainGlobals mg->mg d.name=some (.ref fa) ->
   ∃ fd:FuncData,(∀ (s:Shared) (u:Value),BindsTo s fd ⟨[u],[]⟩ [("script",u)])/\∀ base:Heap,(K w.params).In base->base.Ns mainGlobals mg->base.BuiltinsAt mg Pt->FnOk l.prog w (K w.params) mg base CX0 11 fa fd ["script"] (aAx (K w.params) Pt))
  (hKP:∀ w:World,(K w.params).lookup Pt=none) (hC:∀ w:World,PySem.W.codeHdIn (K w.params) c Pt=true) :
  PySem.W.WalkO q loose XP YP l.row.toRowW d [] (fun f vs=>PySem.call f vs) :=
 L2.aB4 (n:=63) (k:=11) (x := "script") (CX:=fun _=>CX0) (sp:=fun w=>aAx (K w.params) Pt) (ts:=[(Pt,zE)]) hn (by decide) hdf ⟨rfl,by decide,by decide,rfl⟩ hq hY
  (fun w h Y p hp=>by rw [Qo.mp hp]; exact ⟨hT w h Y,hKP w,c,PySem.W.codeHd_of_K (hY w h Y) (hC w)⟩) (by simp) (fun w mg fa h a b d=>let ⟨fd,h1,h2⟩:=F hC w mg fa h a b d; ⟨fd,h1,fun base k1 k2 k3=>h2 base k1 k2 (k3 _ (Qg ..))⟩)
  (fun _ _ a ns _ hO hS=>⟨a,ns,rfl,hS,hO.2 _ (Qg ..),fun H' h=>⟨rfl,fun p hp=>by rw [Qo.mp hp]; exact h⟩⟩) fun _ _ _ _ _ z=>z
end Ab
open PySem PySem.W PyProof.Rows
set_option maxRecDepth 100000 in
set_option maxHeartbeats 0 in
theorem PySem.Challenge.cw_ablehands_k28_rounded_deals_holds : PySem.Challenge.rw_ablehands_k28_rounded_deals.Holds := by
 w_on; o_law; k_head; (case hw=>w_witness2)
 k_fill
 refine' Ab.walk (l:=PySem.Challenge.rw_ablehands_k28_rounded_deals) rfl rfl (by decide +kernel) (fun w h Y=>PySem.W.km_in_of Y) (fun w h Y=>PySem.W.km_tabs_of Y _ (Qg ..)) ?F ?KP ?HC
 case F =>
  intro hC w mg fa h KX G hmg
  refine' Ab.aEe hmg ?B ?hPO ?Z ?hW ?hH ?hKw ?hBP ?hNB ?hCM ?hLO ?hPL ?hIL ?hAW ?hNW ?hWI ?hST ?hHV ?hBK ?hRC ?hWY ?hHA ?hSP ?hLL ?hPA ?hIP ?hRO ?hCE ?hTA ?hDG ?hAH ?hAL ?hSU ?hNM ?hAB ?hWT ?hHE ?hRI ?hLW
  case Z =>
   intro base hb
   exact ⟨hC w,by decide,hb⟩
  case hPO =>
   refine' Ab.aFn KX G (fun _ _ _ _ _ _ us hl=>match us,hl with | [_,_,_],_=>rfl) ?a ?l ?c ?k
   (case a=>k_is); (case l=>k_is); (case c=>k_is); (case k=>k_is)
  case B =>
   refine' Ab.aGc KX G ?z0 ?z1 ?z2 ?z3 ?z4 ?z5 ?z6 ?z7 ?z8 ?z9 ?z10 ?z11 ?z12 ?z13 ?z14 ?z15 ?z16 ?zA ?zB ?zK0 ?zK1
   (case z0=>k_is)
   (case z1=>k_is)
   (case z2=>k_is)
   (case z3=>k_is)
   (case z4=>k_is)
   (case z5=>k_is)
   (case z6=>k_is)
   (case z7=>k_is)
   (case z8=>k_is)
   (case z9=>k_is)
   (case z10=>k_is)
   (case z11=>k_is)
   (case z12=>k_is)
   (case z13=>k_is)
   (case z14=>k_is)
   (case z15=>k_is)
   (case z16=>k_is)
   (case zA=>k_is)
   (case zB=>k_is)
   (case zK0=>k_is)
   (case zK1=>k_is)
  case hW =>
   refine' Ab.cJ KX G (fun _ _ _ _ _ _ us hl=>match us,hl with | [_],_=>rfl) ?a ?l ?c ?k
   (case a=>k_is); (case l=>k_is); (case c=>k_is); (case k=>k_is)
  case hH =>
   refine' Ab.cJ KX G (fun _ _ _ _ _ _ us hl=>match us,hl with | [_],_=>rfl) ?a ?l ?c ?k
   (case a=>k_is); (case l=>k_is); (case c=>k_is); (case k=>k_is)
  case hKw =>
   refine' Ab.cJ KX G (fun _ _ _ _ _ _ us hl=>match us,hl with | [_,_],_=>rfl) ?a ?l ?c ?k
   (case a=>k_is); (case l=>k_is); (case c=>k_is); (case k=>k_is)
  case hBP =>
   refine' Ab.cJ KX G (fun _ _ _ _ _ _ us hl=>match us,hl with | [_],_=>rfl) ?a ?l ?c ?k
   (case a=>k_is); (case l=>k_is); (case c=>k_is); (case k=>k_is)
  case hNB =>
   refine' Ab.cJ KX G (fun _ _ _ _ _ _ us hl=>match us,hl with | [_],_=>rfl) ?a ?l ?c ?k
   (case a=>k_is); (case l=>k_is); (case c=>k_is); (case k=>k_is)
  case hCM =>
   refine' Ab.cJ KX G (fun _ _ _ _ _ _ us hl=>match us,hl with | [_,_],_=>rfl) ?a ?l ?c ?k
   (case a=>k_is); (case l=>k_is); (case c=>k_is); (case k=>k_is)
  case hLO =>
   refine' Ab.cJ KX G (fun _ _ _ _ _ _ us hl=>match us,hl with | [_,_],_=>rfl) ?a ?l ?c ?k
   (case a=>k_is); (case l=>k_is); (case c=>k_is); (case k=>k_is)
  case hPL =>
   refine' Ab.cJ KX G (fun _ _ _ _ _ _ us hl=>match us,hl with | [_,_],_=>rfl) ?a ?l ?c ?k
   (case a=>k_is); (case l=>k_is); (case c=>k_is); (case k=>k_is)
  case hIL =>
   refine' Ab.cJ KX G (fun _ _ _ _ _ _ us hl=>match us,hl with | [_,_],_=>rfl) ?a ?l ?c ?k
   (case a=>k_is); (case l=>k_is); (case c=>k_is); (case k=>k_is)
  case hAW =>
   refine' Ab.cJ KX G (fun _ _ _ _ _ _ us hl=>match us,hl with | [_,_],_=>rfl) ?a ?l ?c ?k
   (case a=>k_is); (case l=>k_is); (case c=>k_is); (case k=>k_is)
  case hNW =>
   refine' Ab.cJ KX G (fun _ _ _ _ _ _ us hl=>match us,hl with | [_,_],_=>rfl) ?a ?l ?c ?k
   (case a=>k_is); (case l=>k_is); (case c=>k_is); (case k=>k_is)
  case hWI =>
   refine' Ab.cJ KX G (fun _ _ _ _ _ _ us hl=>match us,hl with | [_,_],_=>rfl) ?a ?l ?c ?k
   (case a=>k_is); (case l=>k_is); (case c=>k_is); (case k=>k_is)
  case hST =>
   refine' Ab.cJ KX G (fun _ _ _ _ _ _ us hl=>match us,hl with | [_],_=>rfl) ?a ?l ?c ?k
   (case a=>k_is); (case l=>k_is); (case c=>k_is); (case k=>k_is)
  case hHV =>
   refine' Ab.cJ KX G (fun _ _ _ _ _ _ us hl=>match us,hl with | [_,_],_=>rfl) ?a ?l ?c ?k
   (case a=>k_is); (case l=>k_is); (case c=>k_is); (case k=>k_is)
  case hBK =>
   refine' Ab.cJ KX G (fun _ _ _ _ _ _ us hl=>match us,hl with | [_,_],_=>rfl) ?a ?l ?c ?k
   (case a=>k_is); (case l=>k_is); (case c=>k_is); (case k=>k_is)
  case hRC =>
   refine' Ab.cJ KX G (fun _ _ _ _ _ _ us hl=>match us,hl with | [_,_],_=>rfl) ?a ?l ?c ?k
   (case a=>k_is); (case l=>k_is); (case c=>k_is); (case k=>k_is)
  case hWY =>
   refine' Ab.cJ KX G (fun _ _ _ _ _ _ us hl=>match us,hl with | [_,_],_=>rfl) ?a ?l ?c ?k
   (case a=>k_is); (case l=>k_is); (case c=>k_is); (case k=>k_is)
  case hHA =>
   refine' Ab.cJ KX G (fun _ _ _ _ _ _ us hl=>match us,hl with | [_,_,_],_=>rfl) ?a ?l ?c ?k
   (case a=>k_is); (case l=>k_is); (case c=>k_is); (case k=>k_is)
  case hSP =>
   refine' Ab.cJ KX G (fun _ _ _ _ _ _ us hl=>match us,hl with | [_,_,_],_=>rfl) ?a ?l ?c ?k
   (case a=>k_is); (case l=>k_is); (case c=>k_is); (case k=>k_is)
  case hLL =>
   refine' Ab.cJ KX G (fun _ _ _ _ _ _ us hl=>match us,hl with | [_,_],_=>rfl) ?a ?l ?c ?k
   (case a=>k_is); (case l=>k_is); (case c=>k_is); (case k=>k_is)
  case hPA =>
   refine' Ab.cJ KX G (fun _ _ _ _ _ _ us hl=>match us,hl with | [_,_],_=>rfl) ?a ?l ?c ?k
   (case a=>k_is); (case l=>k_is); (case c=>k_is); (case k=>k_is)
  case hIP =>
   refine' Ab.cJ KX G (fun _ _ _ _ _ _ us hl=>match us,hl with | [_,_],_=>rfl) ?a ?l ?c ?k
   (case a=>k_is); (case l=>k_is); (case c=>k_is); (case k=>k_is)
  case hRO =>
   refine' Ab.cJ KX G (fun _ _ _ _ _ _ us hl=>match us,hl with | [_,_],_=>rfl) ?a ?l ?c ?k
   (case a=>k_is); (case l=>k_is); (case c=>k_is); (case k=>k_is)
  case hCE =>
   refine' Ab.cJ KX G (fun _ _ _ _ _ _ us hl=>match us,hl with | [_,_],_=>rfl) ?a ?l ?c ?k
   (case a=>k_is); (case l=>k_is); (case c=>k_is); (case k=>k_is)
  case hTA =>
   refine' Ab.cJ KX G (fun _ _ _ _ _ _ us hl=>match us,hl with | [_,_],_=>rfl) ?a ?l ?c ?k
   (case a=>k_is); (case l=>k_is); (case c=>k_is); (case k=>k_is)
  case hDG =>
   refine' Ab.cJ KX G (fun _ _ _ _ _ _ us hl=>match us,hl with | [_,_],_=>rfl) ?a ?l ?c ?k
   (case a=>k_is); (case l=>k_is); (case c=>k_is); (case k=>k_is)
  case hAH =>
   refine' Ab.cJ KX G (fun _ _ _ _ _ _ us hl=>match us,hl with | [_],_=>rfl) ?a ?l ?c ?k
   (case a=>k_is); (case l=>k_is); (case c=>k_is); (case k=>k_is)
  case hAL =>
   refine' Ab.cJ KX G (fun _ _ _ _ _ _ us hl=>match us,hl with | [_,_],_=>rfl) ?a ?l ?c ?k
   (case a=>k_is); (case l=>k_is); (case c=>k_is); (case k=>k_is)
  case hSU =>
   refine' Ab.cJ KX G (fun _ _ _ _ _ _ us hl=>match us,hl with | [_],_=>rfl) ?a ?l ?c ?k
   (case a=>k_is); (case l=>k_is); (case c=>k_is); (case k=>k_is)
  case hNM =>
   refine' Ab.cJ KX G (fun _ _ _ _ _ _ us hl=>match us,hl with | [_,_],_=>rfl) ?a ?l ?c ?k
   (case a=>k_is); (case l=>k_is); (case c=>k_is); (case k=>k_is)
  case hAB =>
   refine' Ab.cJ KX G (fun _ _ _ _ _ _ us hl=>match us,hl with | [_,_,_],_=>rfl) ?a ?l ?c ?k
   (case a=>k_is); (case l=>k_is); (case c=>k_is); (case k=>k_is)
  case hWT =>
   refine' Ab.cJ KX G (fun _ _ _ _ _ _ us hl=>match us,hl with | [_,_],_=>rfl) ?a ?l ?c ?k
   (case a=>k_is); (case l=>k_is); (case c=>k_is); (case k=>k_is)
  case hHE =>
   refine' Ab.cJ KX G (fun _ _ _ _ _ _ us hl=>match us,hl with | [_,_,_],_=>rfl) ?a ?l ?c ?k
   (case a=>k_is); (case l=>k_is); (case c=>k_is); (case k=>k_is)
  case hRI =>
   refine' Ab.cJ KX G (fun _ _ _ _ _ _ us hl=>match us,hl with | [_,_,_],_=>rfl) ?a ?l ?c ?k
   (case a=>k_is); (case l=>k_is); (case c=>k_is); (case k=>k_is)
  case hLW =>
   refine' Ab.cJ KX G (fun _ _ _ _ _ _ us hl=>match us,hl with | [_],_=>rfl) ?a ?l ?c ?k
   (case a=>k_is); (case l=>k_is); (case c=>k_is); (case k=>k_is)
 case KP=>intro w; first | k_is | kernel_rfl
 case HC=>intro w; kernel_rfl
