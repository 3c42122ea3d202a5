import PyProof.Rows.All
import Wide.All
import OpenK.AllK
import Wide.FinOn
import PyProof.EqAt
import PyProof.EqKinds
import PyProof.TupleCall
import PyProof.DictCompW
import PyProof.WalksMore
import PyProof.MinMaxWalk
import PyProof.DictDisplay
import PyProof.DictWalks
import Lean
import PySem.Challenge.RW_ablehands_k21_no_rooms
open PySem.Heap renaming get?_push_of_some -> Qa,get?_push_size -> Qe,lt_size -> Ql,get?_update_other -> Qw,size_push -> Qz,get?_update_self -> Jx
open List renaming length_map -> Qb,getElem?_eq_some_iff -> Qc,getElem?_eq_getElem -> Qd,size_toArray -> Qg,getElem?_map -> Qh,mem_of_getElem? -> Qj,mem_cons -> Qk,mem_cons_of_mem -> Qm,not_mem_nil -> Qn,mem_cons_self -> Qo,mem_singleton -> Qr,length_append -> Qs,map_cons -> Qu,map_append -> Qy,all_eq_true -> Ja,mem_append_right -> Jc,length_take -> Jd,getElem?_append_left -> Je,mem_append -> Jf,mem_iff_getElem? -> Ji,mem_singleton_self -> Jj,length_cons -> Jk,mem_map -> Jl,take_of_length_le -> Jn,lookup_cons -> Jo,getD_eq_getElem?_getD -> Jp,mem_append_left -> Jq,filter_append -> Jr,count_cons -> Js,length_drop -> Jt,filterMap_cons -> Ju,length_replicate -> Jw,take_succ -> Jz,getElem?_replicate -> Xa,pairwise_cons -> Xb,replicate_succ -> Xd,toList_toArray -> Xe,mem_range -> Xf,nodup_cons -> Xh,take_length -> Xk,filter_cons_of_pos -> Xl,filter_cons_of_neg -> Xm,getElem?_append_right -> Xn,getElem?_zip_eq_some -> Xp,flatten_cons -> Xr,forIn_cons -> Xs,eq_of_mem_replicate -> Xt,getElem_mem -> Xv,getElem?_set_self -> Xx,nil_append -> Xy,length_nil -> Xz,find?_cons -> Za,length_filter_le -> Zb,getElem?_set_ne -> Zd,forIn_nil -> Ze,any_eq_true -> Zg,length_set -> Zh,length_eq_zero_iff -> Zi,pairwise_singleton -> Zj,flatten_replicate_singleton -> Zk,length_range -> Zl,getElem?_set -> Zm,zipIdx_cons -> Zo,any_cons -> Zp,mem_filter -> Zq,append_nil -> Zr,map_congr_left -> Zs,zipIdx_nil -> Zt,getElem?_range -> Zu,contains_cons -> Zx,all_map -> Zy,drop_eq_getElem_cons -> Zz,getElem?_eq_none_iff -> Ya,ext_getElem? -> Yc,getElem?_inj -> Ye,isEmpty_nil -> Yg,cons_append -> Yh,drop_of_length_le -> Yi,pairwise_lt_range -> Yj,filter_eq_nil_iff -> Yk,of_mem_zip -> Yl,map_nil -> Ym,mem_of_mem_take -> Yo,count_singleton -> Yp,drop_zero -> Yq,length -> Ys,length_reverse -> Yu,mem_filterMap -> Yw,filterMap_map -> Yx,any_map -> Wb
open Nat renaming le_refl -> Qi,lt_of_lt_of_le -> Qp,ne_of_lt -> Qt,le_trans -> Qx,lt_irrefl -> Jb,zero_le -> Jm,ne_of_gt -> Jv,lt_succ_of_lt -> Jy,le_add_right -> Xo,le_of_lt -> Xu,lt_succ_self -> Zf,not_lt_zero -> Zv,lt_of_le_of_lt -> Zw,succ_le_succ -> Yf,mul_le_mul -> Yr,le_succ -> Yt,le_of_eq -> Yz,mod_one -> Wd
open Bool renaming false_ne_true -> Qq,and_eq_true -> Qv,false_eq_true -> Jh,true_and -> Xg,eq_iff_iff -> Xq,false_and -> Xw,and_false -> Zn,or_eq_true -> Yn,not_true -> Yy
open Int renaming toNat_natCast -> Jg,emod_lt_of_pos -> Xc,emod_nonneg -> Xj,toNat_of_nonneg -> Yv,zero_add -> Wa,le_refl -> Wc
open Option renaming map_some -> Xi,isSome_iff_exists -> Yb,isSome_map -> Yd
def PySem.W.Fast.tw18288776626844904019:Nat:=0
def PySem.W.Fast.tw11562148279838628747:Nat:=0
def PySem.W.Fast.tw12698234273928482088:Nat:=0
def PySem.W.Fast.tw8464564593970740806:Nat:=0
def PySem.W.Fast.tw4338617294200374645:Nat:=0
def PySem.W.Fast.tw14018550192508347617:Nat:=0
def PySem.W.Fast.tw15416590683178374216:Nat:=0
def PySem.W.Fast.tw5714702998246938264:Nat:=0
def PySem.W.Fast.tw9604303060268362747:Nat:=0
def PySem.W.Fast.tw17364377211687350304:Nat:=0
def PySem.W.Fast.tw16189288535466000913:Nat:=0
def PySem.W.Fast.tw2839616454393911536:Nat:=0
def PySem.W.Fast.tw5305765965208446177:Nat:=0
def PySem.W.Fast.tw2412808545877176301:Nat:=0
def PySem.W.Fast.tw3674888930110165380:Nat:=0
def PySem.W.Fast.tw6687068766878364573:Nat:=0
def PySem.W.Fast.tw619125845597863519:Nat:=0
def PySem.W.Fast.tw12322675903411982069:Nat:=0
def PySem.W.Fast.tw12816232155532462235:Nat:=0
def PySem.W.Fast.tw16807764130354807193:Nat:=0
def PySem.W.Fast.tw2272945878795363213:Nat:=0
def PySem.W.Fast.tw15988706850563737989:Nat:=0
def PySem.W.Fast.tw14371246168804393228:Nat:=0
def PySem.W.Fast.tw14922665832207017235:Nat:=0
def PySem.W.Fast.tw9556858071458544550:Nat:=0
def PySem.W.Fast.tw8221021332095610676:Nat:=0
def PySem.W.Fast.tw3109921014054084184:Nat:=0
def PySem.W.Fast.tw8561208442041129859:Nat:=0
def PySem.W.Fast.tw5642272845014156534:Nat:=0
def PySem.W.Fast.tw13690737565271839560:Nat:=0
def PySem.W.Fast.tw11055205680469305695:Nat:=0
def PySem.W.Fast.tw10456856042842913901:Nat:=0
def PySem.W.Fast.tw11405095895824079992:Nat:=0
def PySem.W.Fast.tw14888021909397441494:Nat:=0
def PySem.W.Fast.tw7075062426779251136:Nat:=0
def PySem.W.Fast.tw16725082785618691026:Nat:=0
def PySem.W.Fast.tw4000764498313657546:Nat:=0
def PySem.W.Fast.tw2317805046944936021:Nat:=0
def PySem.W.Fast.tw5626237581549005639:Nat:=0
def PySem.W.Fast.tw17483057716994740550:Nat:=0
def PySem.W.Fast.tw1533568532405108391:Nat:=0
def PySem.W.Fast.tw171939838805697342:Nat:=0
def PySem.W.Fast.tw356257398870064093:Nat:=0
def PySem.W.Fast.tw3018639246309954914:Nat:=0
def PySem.W.Fast.tw11091747616701306351:Nat:=0
def PySem.W.Fast.tw1775371635954811925:Nat:=0
def PySem.W.Fast.tw8201826002982365058:Nat:=0
def PySem.W.Fast.tw15823276755800554411:Nat:=0
def PySem.W.Fast.tw11385957616611209667:Nat:=0
def PySem.W.Fast.tw3737705900343259689:Nat:=0
def PySem.W.Fast.tw12197619368097420066:Nat:=0
def PySem.W.Fast.tw8379233307425732608:Nat:=0
def PySem.W.Fast.tw3012159340770498274:Nat:=0
def PySem.W.Fast.tw9824844693155548244:Nat:=0
def PySem.W.Fast.tw14356307101452980919:Nat:=0
def PySem.W.Fast.tw18434972470583534585:Nat:=0
def PySem.W.Fast.tw16408790399966630623:Nat:=0
def PySem.W.Fast.tw9476893879509890530:Nat:=0
def PySem.W.Fast.tw15034036582777574297:Nat:=0
def PySem.W.Fast.tw5743432950699700495:Nat:=0
def PySem.W.Fast.tw434590384295594944:Nat:=0
def PySem.W.Fast.tw3862671089259987607:Nat:=0
def PySem.W.Fast.tw13332799706519049623:Nat:=0
def PySem.W.Fast.tw4209230252204017406:Nat:=0
def PySem.W.Fast.tw17163712761572076460:Nat:=0
def PySem.W.Fast.tw1430521421408412362:Nat:=0
def PySem.W.Fast.tw1776655248667974938:Nat:=0
def PySem.W.Fast.tw1638492439479569521:Nat:=0
def PySem.W.Fast.tw13283341530205920206:Nat:=0
def PySem.W.Fast.tw14445361765721861076:Nat:=0
def PySem.W.Fast.tw7925807763240359881:Nat:=0
def PySem.W.Fast.tw10543366115092935460:Nat:=0
def PySem.W.Fast.tw8936088257662471557:Nat:=0
def PySem.W.Fast.tw13440450977218397800:Nat:=0
def PySem.W.Fast.tw8845429906156549864:Nat:=0
def PySem.W.Fast.tw2349023191415978380:Nat:=0
def PySem.W.Fast.tw3570589176930029201:Nat:=0
def PySem.W.Fast.tw10819424844323998311:Nat:=0
def PySem.W.Fast.tw4493172592401100487:Nat:=0
def PySem.W.Fast.tw3857536002104677538:Nat:=0
def PySem.W.Fast.tw9810825128827014302:Nat:=0
def PySem.W.Fast.tw17110746199380715429:Nat:=0
def PySem.W.Fast.tw15210075206688796936:Nat:=0
def PySem.W.Fast.tw4630168535860858375:Nat:=0
def PySem.W.Fast.tw15325352277405723409:Nat:=0
def PySem.W.Fast.tw18033206419379499484:Nat:=0
def PySem.W.Fast.tw13224037602927120841:Nat:=0
def PySem.W.Fast.tw9940624380530457645:Nat:=0
def PySem.W.Fast.tw5888877987247351579:Nat:=0
def PySem.W.Fast.tw7468045326243233326:Nat:=0
def PySem.W.Fast.tw15839478688478843414:Nat:=0
def PySem.W.Fast.tw3846015310487712060:Nat:=0
def PySem.W.Fast.tw16040082162046595454:Nat:=0
def PySem.W.Fast.tw9264704152536545172:Nat:=0
def PySem.W.Fast.tw1672501094774589327:Nat:=0
def PySem.W.Fast.tw10508200796673962264:Nat:=0
def PySem.W.Fast.tw10249320154117633362:Nat:=0
def PySem.W.Fast.tw8113885147057656329:Nat:=0
def PySem.W.Fast.tw9266046524752863769:Nat:=0
def PySem.W.Fast.tw998553603302551766:Nat:=0
def PySem.W.Fast.tw2558347935523048030:Nat:=0
def PySem.W.Fast.tw13296665229710222584:Nat:=0
def PySem.W.Fast.tw14117362110703341206:Nat:=0
def PySem.W.Fast.tw17145928147348519494:Nat:=0
def PySem.W.Fast.tw12382132664576065723:Nat:=0
def PySem.W.Fast.tw10265504733659560930:Nat:=0
def PySem.W.Fast.tw10367015258925204815:Nat:=0
def PySem.W.Fast.tw11904247730329696165:Nat:=0
def PySem.W.Fast.tw4119598738169736710:Nat:=0
def PySem.W.Fast.tw9368857377100526123:Nat:=0
def PySem.W.Fast.tw15852697985435630744:Nat:=0
def PySem.W.Fast.tw16294029661344751932:Nat:=0
def PySem.W.Fast.tw4712521522401305805:Nat:=0
def PySem.W.Fast.tw14437362276244044251:Nat:=0
def PySem.W.Fast.tw16633019382908366519:Nat:=0
def PySem.W.Fast.tw6136709853714331299:Nat:=0
def PySem.W.Fast.tw15086353453987124648:Nat:=0
def PySem.W.Fast.tw16410127415918343303:Nat:=0
def PySem.W.Fast.tw14111940677370383118:Nat:=0
def PySem.W.Fast.tw201808625442657028:Nat:=0
def PySem.W.Fast.tw12262553108084616680:Nat:=0
def PySem.W.Fast.tw762597276168880168:Nat:=0
def PySem.W.Fast.tw17418360529269103140:Nat:=0
def PySem.W.Fast.tw2292084394112744021:Nat:=0
def PySem.W.Fast.tw16868896124233294516:Nat:=0
def PySem.W.Fast.tw5479855892225580712:Nat:=0
def PySem.W.Fast.tw16050770821248533943:Nat:=0
def PySem.W.Fast.tw2794772378107742206:Nat:=0
def PySem.W.Fast.tw17706194005267159544:Nat:=0
def PySem.W.Fast.tw8831667892692137630:Nat:=0
def PySem.W.Fast.tw12679110762369165436:Nat:=0
def PySem.W.Fast.tw10108947510055108730:Nat:=0
def PySem.W.Fast.tw10555437544798243306:Nat:=0
def PySem.W.Fast.tw10858293343145196904:Nat:=0
def PySem.W.Fast.tw17965010822764664865:Nat:=0
def PySem.W.Fast.tw10709746706877317224:Nat:=0
def PySem.W.Fast.tw15009159916220674232:Nat:=0
def PySem.W.Fast.tw8481186865597823265:Nat:=0
def PySem.W.Fast.tw9319242054975498406:Nat:=0
def PySem.W.Fast.tw6477884639388885660:Nat:=0
def PySem.W.Fast.tw14198913750805847169:Nat:=0
def PySem.W.Fast.tw4966999850268493745:Nat:=0
def PySem.W.Fast.tw8367338925803157327:Nat:=0
def PySem.W.Fast.tw4710482043647579593:Nat:=0
def PySem.W.Fast.tw6544249011379288022:Nat:=0
def PySem.W.Fast.tw12891879745538920360:Nat:=0
def PySem.W.Fast.tw12804014588279818542:Nat:=0
def PySem.W.Fast.tw14832674948338744335:Nat:=0
def PySem.W.Fast.tw15940431150185812962:Nat:=0
def PySem.W.Fast.tw1236890634402593801:Nat:=0
def PySem.W.Fast.tw101401031993552230:Nat:=0
def PySem.W.Fast.tw848181757299512543:Nat:=0
def PySem.W.Fast.tw8473229838176350368:Nat:=0
def PySem.W.Fast.tw14057231227286713931:Nat:=0
def PySem.W.Fast.tw4337428148736928859:Nat:=0
def PySem.W.Fast.tw13110632426032270580:Nat:=0
def PySem.W.Fast.tw2506810049499434536:Nat:=0
def PySem.W.Fast.tw8905648213551963007:Nat:=0
def PySem.W.Fast.tw754359792078838321:Nat:=0
def PySem.W.Fast.tw10392086940157243603:Nat:=0
set_option Elab.async false
set_option linter.all false
set_option maxRecDepth 100000
namespace L2
open PySem PySem.Spec PyProof.Rows
abbrev Key:=Sum Int Str
def rO:Key->Value->Bool
 | .inl k,v=>Value.isInt k v
 | .inr x,v=>Value.isStrOf x v
def aFD (w:World):Key->Int
 | .inl k=>hashInt k
 | .inr x=>hashStr w x
theorem cH:∀ {k:Key} {v:Value},rO k v=true->(∃ i t,k=Sum.inl i/\v=Value.int i t)∨(∃ x t,k=Sum.inr x/\v=Value.str x t)
 | .inl i,v,h=>by
  obtain ⟨t,e⟩:=Value.isInt_shape (k:=i) (v:=v) h
  exact .inl ⟨i,t,rfl,e⟩
 | .inr x,v,h=>by
  obtain ⟨t,e⟩:=Value.isStrOf_shape (x:=x) (v:=v) h
  exact .inr ⟨x,t,rfl,e⟩
theorem aAv (i:Int) (t:Tok):rO (.inl i) (.int i t)=true:=by simp [rO,Value.isInt]
theorem aAw (x:Str) (t:Tok):rO (.inr x) (.str x t)=true:=by simp [rO,Value.isStrOf]
theorem aDZ (a b:Int):decide ((Sum.inl a:Key)=Sum.inl b)=(a==b):=by
 by_cases e:a=b
 ·subst e; simp
 ·have h:¬ (Sum.inl a:Key)=Sum.inl b:=fun q=>e (Sum.inl.inj q)
  rw [decide_eq_false h]
  exact (beq_eq_false_iff_ne.mpr e).symm
theorem aD0 (a b:Str):decide ((Sum.inr a:Key)=Sum.inr b)=decide (a=b):=by
 by_cases e:a=b
 ·subst e; simp
 ·have h:¬ (Sum.inr a:Key)=Sum.inr b:=fun q=>e (Sum.inr.inj q)
  rw [decide_eq_false h,decide_eq_false e]
theorem aD1 (a:Int) (b:Str):decide ((Sum.inl a:Key)=Sum.inr b)=false:=decide_eq_false (fun q=>nomatch q)
theorem aD2 (a:Str) (b:Int):decide ((Sum.inr a:Key)=Sum.inl b)=false:=decide_eq_false (fun q=>nomatch q)
def cG (prog:Program) (w:World):PySem.KeyKind prog w Key where
 is:=rO
 hash:=aFD w
 inj:=fun v a b ha hb=>by
  rcases cH ha with ⟨i,t,rfl,rfl⟩ | ⟨x,t,rfl,rfl⟩
  ·rcases cH hb with ⟨j,u,rfl,e⟩ | ⟨y,u,rfl,e⟩
   ·injection e with e1 _; rw [e1]
   ·exact nomatch e
  ·rcases cH hb with ⟨j,u,rfl,e⟩ | ⟨y,u,rfl,e⟩
   ·exact nomatch e
   ·injection e with e1 _; rw [e1]
 byValue:=fun k v h=>by
  rcases cH h with ⟨i,t,rfl,rfl⟩ | ⟨x,t,rfl,rfl⟩ <;> rfl
 pyHash:=fun hv h=>by
  rcases cH hv with ⟨i,t,rfl,rfl⟩ | ⟨x,t,rfl,rfl⟩
  ·exact wpAny_pyHash_int h
  ·exact wpAny_pyHash_str h
 eqBool:=fun hu hv h=>by
  rcases cH hu with ⟨i,t,rfl,rfl⟩ | ⟨x,t,rfl,rfl⟩
  ·rcases cH hv with ⟨j,u,rfl,rfl⟩ | ⟨y,u,rfl,rfl⟩
   ·rw [aDZ] at h; exact wpAny_eqBool_int h
   ·rw [aD1] at h; exact SeqAt.EqAt.int_str i t y u _ _ _ _ h
  ·rcases cH hv with ⟨j,u,rfl,rfl⟩ | ⟨y,u,rfl,rfl⟩
   ·rw [aD2] at h; exact SeqAt.EqAt.str_int x t j u _ _ _ _ h
   ·rw [aD0] at h; exact wpAny_eqBool_str h
 «strs»:=fun k x t v h=>by
  rcases cH h with ⟨i,u,rfl,e⟩ | ⟨y,u,rfl,e⟩
  ·exact nomatch e
  ·injection e with e1 _
   subst e1
   cases v <;> rfl
theorem uT (prog:Program) (w:World) (i:Int) (t:Tok):(cG prog w).is (.inl i) (.int i t)=true:=aAv i t
theorem uU (prog:Program) (w:World) (x:Str) (t:Tok):(cG prog w).is (.inr x) (.str x t)=true:=aAw x t
inductive V where
 | non | bl (b:Bool) | int (i:Int) | str (x:Str) | byt (b:Array UInt8) | flt (b:UInt64) | ref (a:Addr) | ty (n:String)
 deriving DecidableEq
def bJ:V->Value->Prop
 | .non,u=>u=Value.none
 | .bl b,u=>u=Value.bool b
 | .int i,u=>∃ t,u=Value.int i t
 | .str x,u=>∃ t,u=Value.str x t
 | .byt b,u=>∃ t,u=Value.bytes b t
 | .flt b,u=>∃ t,u=Value.float b t
 | .ref a,u=>u=Value.ref a
 | .ty n,u=>u=Value.type n
abbrev aZ:List V->List Value->Prop:=Paired bJ
theorem aZ.length {xs:List V} {us:List Value} (r:aZ xs us):xs.length=us.length:=Paired.length r
theorem aZ.get:∀ {xs:List V} {us:List Value} {i:Nat} {x:V},aZ xs us->xs[i]?=some x->∃ u,us[i]?=some u/\bJ x u
 | _,_,_,_,.nil,e=>by simp at e
 | _,_,0,_,.cons r _,e=>by simp at e; subst e; exact ⟨_,rfl,r⟩
 | _,_,i+1,x,.cons _ t,e=>by
  obtain ⟨u,h1,h2⟩:=aZ.get (i:=i) (x:=x) t (by simpa using e)
  exact ⟨u,by simpa using h1,h2⟩
theorem aZ.set {x:V} {u:Value} (r:bJ x u):∀ {xs:List V} {us:List Value} (i:Nat),aZ xs us->aZ (xs.set i x) (us.set i u)
 | _,_,_,.nil=>.nil
 | _,_,0,.cons _ t=>.cons r t
 | _,_,i+1,.cons q t=>.cons q (aZ.set r i t)
theorem aZ.append:∀ {xs ys:List V} {us ws:List Value},aZ xs us->aZ ys ws->aZ (xs++ys) (us++ws)
 := by
 intro xs ys us ws h s
 induction h with
 | nil=>exact s
 | cons r t ih=>exact .cons r ih
theorem aZ.take:∀ {xs:List V} {us:List Value} (n:Nat),aZ xs us->aZ (xs.take n) (us.take n)
 | _,_,0,_=>.nil
 | _,_,_+1,.nil=>.nil
 | _,_,n+1,.cons r t=>.cons r (aZ.take n t)
theorem aZ.drop:∀ {xs:List V} {us:List Value} (n:Nat),aZ xs us->aZ (xs.drop n) (us.drop n)
 | _,_,0,r=>r
 | _,_,_+1,.nil=>.nil
 | _,_,n+1,.cons _ t=>aZ.drop n t
def oC:Option V->Option Value->Prop
 | some v,some u=>bJ v u
 | none,none=>True
 | _,_=>False
def KV {κ:Type}:List (κ×V)->List (κ×Value)->Prop:=Paired fun (p:κ×V) (q:κ×Value)=>p.1=q.1/\bJ p.2 q.2
def kV:Key->V
 | .inl i=>.int i
 | .inr x=>.str x
inductive HO where
 /-- a list -/
 | lst (xs:List V)
 /-- a tuple (never changes) -/
 | tup (xs:List V)
 /-- a dict whose keys are ints and texts; one whose keys are tuples of ints and texts (the empty one is both) -/
 | dK (kvs:List (Key×V)) | dT (kvs:List (List Key×V))
 /-- a set of ints: its members,its size -/
 | set (S:Int->Bool) (n:Nat)
 /-- an instance of the class at C,its dict at dx,its attributes -/
 | ins (C dx:Addr) (fs:List (Str×V))
 /-- the dict of the instance at x -/
 | own (x:Addr)
 /-- the dict of an exception -/
 | xd (fs:List (Str×V))
 /-- a bound method,f of x -/
 | met (f x:Addr)
 /-- a range object lo,lo+1,.. below hi -/
 | rng (lo hi:Int)
 /-- a thing that is known to the object (the script; a dict while a loop walks it): read,never written while it is so -/
 | frz (o:Obj) (u:HO)
 /-- a code object's table -/
 | tbl (ps:Array Value)
 /-- a code object's table,all of whose codes have the name q; they are tracked as its own -/
 | tab (q:Str)
 /-- any other thing,by what is true of its one object (a def of one's own: aEl a S n:=HO.ext fun h=>..) -/
 | ext (φ:Heap->Prop)
abbrev Hp:=Addr->Option HO
def upd (H:Hp) (a:Addr) (o:HO):Hp:=fun b=>if b=a then some o else H b
theorem aC {H:Hp} {a:Addr} {o:HO}:upd H a o a=some o:=by unfold upd; rw [if_pos rfl]
theorem aK {H:Hp} {a b:Addr} {o:HO} (h:b≠a):upd H a o b=H b:=by unfold upd; rw [if_neg h]
theorem aCC {H:Hp} {a:Addr} {o u:HO}:upd (upd H a o) a u=upd H a u:=by
 funext b; unfold upd; split <;> rfl
theorem aET {H:Hp} {a b:Addr} {o u:HO} (h:H a=some o) (h':H b=some u) (d:o≠u):a≠b:=by
 intro e; subst e; rw [h] at h'; exact d (Option.some.inj h')
theorem fV {H:Hp} {a b:Addr} {o:HO} (h:H a=some o) (h':H b=none):a≠b:=by
 intro e; subst e; rw [h] at h'; cases h'
section
variable (P:Program) (w:World)
def bL (H:Hp) (h:Heap) (a:Addr):HO->Prop
 | .lst xs=>xs.length<=sizeLine/\∃ (its:List Value) (n:Nat),aZ xs its/\h.get? a=some { cls:=.type "list",data:=.seq its.toArray n }
 | .tup xs=>xs.length<=sizeLine/\∃ (its:List Value) (n:Nat),aZ xs its/\h.get? a=some { cls:=.type "tuple",data:=.seq its.toArray n }
 | .dK kvs=>kvs.length<=sizeLine/\(a==sysModules)=false/\∃ vs,KV kvs vs/\h.DictOf (cG P w) a vs
 | .dT kvs => kvs.length <= sizeLine /\ (a == sysModules) = false /\ ∃ xs : List (List Key × Addr × Value),
     Paired (fun (p:List Key×V) (q:List Key×Addr×Value)=>p.1=q.1/\H q.2.1=some (.tup (p.1.map kV))/\bJ p.2 q.2.2) kvs xs /\
     ∃ o es ep,h.get? a=some o/\o.ExactDict/\o.data=.dict es ep/\es.toList=xs.map (entryOfKey (tupleKind (cG P w)))/\(xs.map (·.1)).Nodup
 | .set S n=>h.SetOf (intKind P w) a S n
 | .ins C dx fs => H dx = some (.own a) /\ fs.length <= 1000 /\ dx ≠ a /\ h.get? a = some (PySem.W.instObj C dx) /\
     ∃ mA,h.Ns1 dx mA/\(∀ f,oC (fs.lookup f) (mA f))/\PySem.Within mA (fs.map (·.1))
 | .own _=>∃ o,h.get? a=some o
 | .xd fs=>∃ mA,h.Ns1 a mA/\∀ f,oC (fs.lookup f) (mA f)
 | .rng lo hi=>∃ t u v,h.get? a=some { cls:=.type "range",data:=.fields #[.int lo t,.int hi u,.int 1 v] }
 | .frz o u=>h.get? a=some o/\bL H h a u
 | .tbl ps=>h.get? a=some { cls:=.none,data:=.fields ps }
 | .tab q=>∃ ps:Array Value,h.get? a=some { cls:=.none,data:=.fields ps }/\TriplesOk ps.toList/\∀ (pos:Pos) (cv:Value),codeAmong pos ps.toList=some cv->∃ (c:Addr) (o:Obj) (vs:Array Value) (t:Tok),cv=.ref c/\H c=some (.own a)/\h.get? c=some o/\o.data=.fields vs/\vs[1]?=some (.str q t)
 | .met f x=>h.get? a=some (PySem.W.methodObj (.ref f) (.ref x))
 | .ext φ=>φ h/\(∃ o,h.get? a=some o)/\∀ h1 h2:Heap,φ h1->(∀ o,h1.get? a=some o->h2.get? a=some o)->φ h2
def HOk (H:Hp) (h:Heap):Prop:=∀ a o,H a=some o->bL P w H h a o
end
section
variable {P:Program} {w:World} {H H':Hp} {h h':Heap} {a:Addr} {o:HO}
theorem bL.lt (x:bL P w H h a o):a < h.objs.size:=by
 cases o with
 | lst xs=>obtain ⟨_,_,_,_,e⟩:=x; exact Ql e
 | tup xs=>obtain ⟨_,_,_,_,e⟩:=x; exact Ql e
 | dK kvs=>obtain ⟨_,_,_,_,o,_,_,e,_⟩:=x; exact Ql e
 | dT kvs=>obtain ⟨_,_,_,_,o,_,_,e,_⟩:=x; exact Ql e
 | set S n=>obtain ⟨o,_,_,_,e,_⟩:=x; exact Ql e
 | ins C dx fs=>obtain ⟨_,_,_,e,_⟩:=x; exact Ql e
 | own y=>obtain ⟨_,e⟩:=x; exact Ql e
 | xd fs=>obtain ⟨_,⟨_,_,_,e,_⟩,_⟩:=x; exact Ql e
 | rng lo hi=>obtain ⟨_,_,_,e⟩:=x; exact Ql e
 | frz ob u=>obtain ⟨e,_⟩:=x; exact Ql e
 | tbl ps=>exact Ql (show h.get? a=some _ from x)
 | tab q=>obtain ⟨_,e,_⟩:=x; exact Ql e
 | met f y=>exact Ql (show h.get? a=some _ from x)
 | ext φ=>obtain ⟨_,⟨_,e⟩,_⟩:=x; exact Ql e
theorem Paired.mapP {α β:Type} {F G:α->β->Prop}:∀ {l₁:List α} {l₂:List β},Paired F l₁ l₂->(∀ a b,F a b->G a b)->Paired G l₁ l₂
 := by
 intro l₁ l₂ h f
 induction h with
 | nil=>exact .nil
 | cons r t ih=>exact .cons (f _ _ r) ih
theorem bL.stay (x:bL P w H h a o) (k:∀ b u,(b=a∨H b=some (.own a))->h.get? b=some u->h'.get? b=some u)
  (ho:∀ b,H b=some (.own a)->H' b=some (.own a)) (ht:∀ b xs,H b=some (.tup xs)->H' b=some (.tup xs)):bL P w H' h' a o:=by
 induction o with
 | lst xs=>obtain ⟨z,its,n,r,e⟩:=x; exact ⟨z,its,n,r,k _ _ (.inl rfl) e⟩
 | tup xs=>obtain ⟨z,its,n,r,e⟩:=x; exact ⟨z,its,n,r,k _ _ (.inl rfl) e⟩
 | dK kvs=>obtain ⟨z,y,vs,r,ob,es,ep,e,c⟩:=x; exact ⟨z,y,vs,r,ob,es,ep,k _ _ (.inl rfl) e,c⟩
 | dT kvs =>
  obtain ⟨z,y,xs,r,ob,es,ep,e,c⟩:=x
  exact ⟨z,y,xs,Paired.mapP r fun p q z=>⟨z.1,ht _ _ z.2.1,z.2.2⟩,ob,es,ep,k _ _ (.inl rfl) e,c⟩
 | set S n=>obtain ⟨ob,es,ep,t,e,c⟩:=x; exact ⟨ob,es,ep,t,k _ _ (.inl rfl) e,c⟩
 | ins C dx fs =>
  obtain ⟨d,z,ne,e,mA,⟨od,es,ep,e2,c⟩,r⟩:=x
  exact ⟨ho _ d,z,ne,k _ _ (.inl rfl) e,mA,⟨od,es,ep,k _ _ (.inr d) e2,c⟩,r⟩
 | own y=>obtain ⟨ob,e⟩:=x; exact ⟨ob,k _ _ (.inl rfl) e⟩
 | xd fs=>obtain ⟨mA,⟨od,es,ep,e,c⟩,r⟩:=x; exact ⟨mA,⟨od,es,ep,k _ _ (.inl rfl) e,c⟩,r⟩
 | rng lo hi=>obtain ⟨t,u,v,e⟩:=x; exact ⟨t,u,v,k _ _ (.inl rfl) e⟩
 | frz ob u ih=>obtain ⟨e,q⟩:=x; exact ⟨k _ _ (.inl rfl) e,ih q⟩
 | tbl ps =>
  have e:h.get? a=some { cls:=.none,data:=.fields ps }:=x
  show h'.get? a=some { cls:=.none,data:=.fields ps }
  exact k a _ (.inl rfl) e
 | tab q =>
  obtain ⟨ps,e,z,r⟩:=x
  refine ⟨ps,k _ _ (.inl rfl) e,z,fun pos cv q=>?_⟩
  obtain ⟨c,o,vs,t,r1,r2,r3,r4⟩:=r pos cv q
  exact ⟨c,o,vs,t,r1,ho _ r2,k _ _ (.inr r2) r3,r4⟩
 | met f y =>
  have e:h.get? a=some (PySem.W.methodObj (.ref f) (.ref y)):=x
  show h'.get? a=some (PySem.W.methodObj (.ref f) (.ref y))
  exact k a _ (.inl rfl) e
 | ext φ=>obtain ⟨p,⟨o,e⟩,st⟩:=x; exact ⟨st _ _ p fun o q=>k _ _ (.inl rfl) q,⟨o,k _ _ (.inl rfl) e⟩,st⟩
theorem HOk.lt (x:HOk P w H h) (e:H a=some o):a < h.objs.size:=(x a o e).lt
theorem HOk.fresh (x:HOk P w H h) (e:h.objs.size<=a):H a=none:=by
 cases q:H a with
 | none=>rfl
 | some u=>exact absurd (Qp (x.lt q) e) (Jb _)
theorem HOk.kept (x:HOk P w H h) (k:∀ b u,h.get? b=some u->h'.get? b=some u):HOk P w H h':=fun a o e =>
 (x a o e).stay (fun b u _ q=>k b u q) (fun _ q=>q) fun _ _ q=>q
theorem HOk.laid (x:HOk P w H h) (k:∀ b u,h.get? b=some u->h'.get? b=some u) (hp:h.objs.size<=a) (new:bL P w (upd H a o) h' a o):HOk P w (upd H a o) h':=fun b u e=>by
 have hn:=x.fresh hp
 by_cases hb:b=a
 ·subst hb; rw [aC] at e; cases e; exact new
 ·rw [aK hb] at e
  exact (x b u e).stay (fun c v _ q=>k c v q) (fun c q=>by rw [aK (fV q hn)]; exact q) fun c xs q=>by rw [aK (fV q hn)]; exact q
end
def Rd (H:Hp) (a:Addr) (u:HO):Prop:=H a=some u∨∃ o,H a=some (.frz o u)
theorem Rd.of {H:Hp} {a:Addr} {u:HO} (h:H a=some u):Rd H a u:=.inl h
theorem Rd.ok {P:Program} {w:World} {H:Hp} {h:Heap} {a:Addr} {u:HO} (r:Rd H a u) (x:HOk P w H h):bL P w H h a u:=by
 rcases r with r | ⟨o,r⟩
 ·exact x a u r
 ·obtain ⟨_,q⟩:=x a _ r
  exact q
def Mut:Option HO->Prop
 | some (.lst _)=>True
 | some (.dK _)=>True
 | some (.dT _)=>True
 | some (.set _ _)=>True
 | some (.ins _ _ _)=>True
 | some (.ext _)=>True
 | some (.tab _)=>True
 | _=>False
section
variable {P:Program} {w:World} {H:Hp} {h h':Heap} {x e:Addr} {o':HO}
theorem HOk.write (ok:HOk P w H h) (mu:Mut (H x)) (he:e=x∨H e=some (.own x)) (k:∀ b u,b≠e->h.get? b=some u->h'.get? b=some u) (heo:∃ u,h'.get? e=some u)
  (new:bL P w (upd H x o') h' x o'):HOk P w (upd H x o') h':=fun b u q=>by
 have nown:∀ c y,H c=some (.own y)->c≠x:=fun c y r z=>by subst z; rw [r] at mu; exact mu
 have ntup:∀ c xs,H c=some (.tup xs)->c≠x:=fun c xs r z=>by subst z; rw [r] at mu; exact mu
 by_cases hb:b=x
 ·subst hb; rw [aC] at q; cases q; exact new
 ·rw [aK hb] at q
  by_cases hbe:b=e
  ·have q':H b=some (.own x):=by
    rcases he with z | z
    ·exact absurd (hbe.trans z) hb
    ·rw [hbe]; exact z
   rw [q] at q'; cases q'
   obtain ⟨v,hv⟩:=heo
   exact ⟨v,by rw [hbe]; exact hv⟩
  ·refine (ok b u q).stay (fun c v hc r=>k c v ?_ r) (fun c r=>by rw [aK (nown c b r)]; exact r) fun c xs r=>by rw [aK (ntup c xs r)]; exact r
   rcases hc with rfl | hc
   ·exact hbe
   ·rintro rfl
    rcases he with z | z
    ·exact nown c b hc z
    ·rw [hc] at z; cases z; exact hb rfl
end
structure Un (fs ex:List Addr) (H H':Hp) (h h':Heap):Prop where
 keep:∀ b o,h.get? b=some o->H b=none->b∉fs->b∉ex->h'.get? b=some o
 slot:∀ b o,h.get? b=some o->H b=none->b∈fs->b∉ex->∃ sl,h'.get? b=some { o with slots:=sl }
 free:∀ b o,h.get? b=some o->H b=none->b∉ex->H' b=none
 there:∀ b o,h.get? b=some o->b∉ex->∃ o',h'.get? b=some o'
 tups:∀ b xs,H b=some (.tup xs)->H' b=some (.tup xs)
 frzs:∀ b o u,H b=some (.frz o u)->H' b=some (.frz o u)
 tbls:∀ b ps,H b=some (.tbl ps)->∃ more,H' b=some (.tbl (ps++more))
section
variable {fs fs' ex ex':List Addr} {H H1 H2:Hp} {h h1 h2 h':Heap} {a x e:Addr} {o:HO}
theorem Un.any (u:Un fs ex H H1 h h1) {b:Addr} {ob:Obj} (q:h.get? b=some ob) (n:H b=none) (hx:b∉ex):∃ sl,h1.get? b=some { ob with slots:=sl }:=by
 by_cases hb:b∈fs
 ·exact u.slot b ob q n hb hx
 ·exact ⟨ob.slots,u.keep b ob q n hb hx⟩
theorem Un.trans (a:Un fs ex H H1 h h1) (b:Un fs ex H1 H2 h1 h2):Un fs ex H H2 h h2 where
 keep:=fun c ob q n hc hx=>b.keep c ob (a.keep c ob q n hc hx) (a.free c ob q n hx) hc hx
 slot:=fun c ob q n hc hx=>by
  obtain ⟨sl,e1⟩:=a.slot c ob q n hc hx
  obtain ⟨sl',e2⟩:=b.slot c _ e1 (a.free c ob q n hx) hc hx
  exact ⟨sl',e2⟩
 free:=fun c ob q n hx=>by
  obtain ⟨o',e1⟩:=a.there c ob q hx
  exact b.free c o' e1 (a.free c ob q n hx) hx
 there:=fun c ob q hx=>by
  obtain ⟨o',e1⟩:=a.there c ob q hx
  exact b.there c o' e1 hx
 tups:=fun c xs q=>b.tups c xs (a.tups c xs q)
 frzs:=fun c ob xs q=>b.frzs c ob xs (a.frzs c ob xs q)
 tbls:=fun c ps q=>by
  obtain ⟨m1,e1⟩:=a.tbls c ps q
  obtain ⟨m2,e2⟩:=b.tbls c _ e1
  exact ⟨m1++m2,by rw [e2,Array.append_assoc]⟩
theorem Un.kept (k:∀ b u,h.get? b=some u->h'.get? b=some u):Un fs ex H H h h' :=
 ⟨fun b ob q _ _ _=>k b ob q,fun b ob q _ _ _=>⟨ob.slots,k b ob q⟩,fun _ _ _ n _=>n,fun b ob q _=>⟨ob,k b ob q⟩,fun _ _ q=>q,fun _ _ _ q=>q,fun _ ps q=>⟨#[],by rw [q]; simp⟩⟩
theorem Un.refl:Un fs ex H H h h:=Un.kept fun _ _ q=>q
theorem Un.laid (k:∀ b u,h.get? b=some u->h'.get? b=some u) (hp:h.objs.size<=a) (hn:H a=none):Un fs ex H (upd H a o) h h' where
 keep:=fun b u q _ _ _=>k b u q
 slot:=fun b u q _ _ _=>⟨u.slots,k b u q⟩
 free:=fun b u q n _=>by rw [aK (Qt (Qp (Ql q) hp))]; exact n
 there:=fun b u q _=>⟨u,k b u q⟩
 tups:=fun b xs q=>by rw [aK (fV q hn)]; exact q
 frzs:=fun b u xs q=>by rw [aK (fV q hn)]; exact q
 tbls:=fun b ps q=>⟨#[],by rw [aK (fV q hn),q]; simp⟩
theorem Un.write (mu:Mut (H x)) (he:e=x∨H e=some (.own x)) (k:∀ b u,b≠e->h.get? b=some u->h'.get? b=some u) (heo:∃ u,h'.get? e=some u):Un fs ex H (upd H x o) h h':=by
 have hx:∀ b,H b=none->b≠x:=fun b n z=>by subst z; rw [n] at mu; exact mu
 have hb:∀ b,H b=none->b≠e:=fun b n z=>by
  subst z
  rcases he with r | r
  ·exact hx b n r
  ·rw [n] at r; cases r
 have hm:∀ b u,H b=some u->¬ Mut (some u)->b≠x:=fun b u q nm z=>by subst z; rw [q] at mu; exact nm mu
 refine ⟨fun b u q n _ _=>k b u (hb b n) q,fun b u q n _ _=>⟨u.slots,k b u (hb b n) q⟩,fun b u q n _=>by rw [aK (hx b n)]; exact n,fun b u q _=>?_,
  fun b xs q=>by rw [aK (hm b _ q fun z=>z)]; exact q,fun b u xs q=>by rw [aK (hm b _ q fun z=>z)]; exact q,fun b ps q=>⟨#[],by rw [aK (hm b _ q fun z=>z),q]; simp⟩⟩
 by_cases hbe:b=e
 ·subst hbe; exact heo
 ·exact ⟨u,k b u hbe q⟩
theorem Un.mono (u:Un fs ex H H1 h h1) (hs:∀ b∈fs,b∈fs') (hx:∀ b∈ex,b∈ex'):Un fs' ex' H H1 h h1 :=
 ⟨fun b ob q n hb he=>u.keep b ob q n (fun z=>hb (hs b z)) fun z=>he (hx b z),fun _ _ q n _ he=>u.any q n fun z=>he (hx _ z),fun b ob q n he=>u.free b ob q n fun z=>he (hx b z),fun b ob q he=>u.there b ob q fun z=>he (hx b z),u.tups,u.frzs,u.tbls⟩
end
def trk (h:Heap) (H:Hp):List Addr:=(List.range h.objs.size).filter fun a=>(H a).isSome
def qY (h:Heap) (H:Hp):Heap:=PySem.W.hideAll h (trk h H)
theorem aAx (h:Heap) (H:Hp):(qY h H).objs.size=h.objs.size:=PySem.W.hideAll_size _ _
theorem aBa {h:Heap} {H:Hp} {b:Addr} {o:Obj} (e:h.get? b=some o) (n:H b=none):(qY h H).get? b=some o :=
 PySem.W.hideAll_get _ e fun hm=>by
  have q:(H b).isSome=true:=(Zq.mp hm).2
  rw [n] at q; simp at q
theorem aCD {h:Heap} {H:Hp} {b:Addr} {o:Obj} (e:(qY h H).get? b=some o):h.get? b=some o/\H b=none:=by
 have e':h.get? b=some o:=PySem.W.of_hideAll (trk h H) e
 refine ⟨e',?_⟩
 cases q:H b with
 | none=>rfl
 | some x =>
  have hm:b∈trk h H:=Zq.mpr ⟨Xf.mpr (Ql e'),by simp [q]⟩
  have z:(qY h H).get? b=none:=PySem.W.hideAll_none (trk h H) hm
  rw [z] at e; cases e
def aCE (g h:Heap) (L:Addr):List (Addr×Obj):=(List.range h.objs.size).filterMap fun a=>if a=L∨(g.get? a).isSome=true then none else (h.get? a).map fun o=>(a,o)
def rest (g h:Heap) (L d:Addr):List (Addr×Obj):=(aCE g h L).filter fun p=>decide (p.1≠d)
structure Mod (K:PySem.W.Frag) (mg:Str->Option Value) (base:Heap):Prop where
 kin:K.In base
 glob:base.Ns mainGlobals mg
 blt:∃ mb,base.Ns builtinsNs mb/\∀ x:Str,x ≠ "__name__" -> mb x=bootBuiltins x
 nolimit:base.NoLimit
 mods:∃ mm,base.Ns sysModules mm
structure Cx where
 prog:Program
 w:World
 K:PySem.W.Frag
 mg:Str->Option Value
 base:Heap
 A:Around
 N:List Str
 s₀:Shared
 H₀:Hp
 env:Env
 outer:List Env
 stack:List Env
 ex:List Addr
 fn:Str->Bool
 calm:Bool
 pn:List (Addr×Obj)
 xe:Value->Shared->Prop
def frs (l:List Env):List Addr:=l.filterMap (·.frame)
abbrev Cx.fs (X:Cx):List Addr:=frs X.outer
def Vis (sc:Scope) (x:Str):Prop:=sc.names.lookup x=some .local∨sc.names.lookup x=some .cell∨sc.names.lookup x=some .free
def Loc (sc:Scope) (x:Str):Prop:=sc.names.lookup x=some .local∨sc.names.lookup x=some .cell
def aEU (env:Env) (h:Heap) (m:Str->Option Value) (x:Str) (u:Value):Prop :=
 (env.kindOf x=some .local/\m x=some u)∨((env.kindOf x=some .cell∨env.kindOf x=some .free)/\∃ c,env.cells.lookup x=some c/\h.IsCell c (some u))
structure Cx.Ok (X:Cx):Prop where
 mod:Mod X.K X.mg X.base
 kind:X.env.scope.kind=.function
 glob:X.env.globals=mainGlobals
 blt:X.env.builtins=builtinsNs
 above:X.s₀.heap.objs.size<=X.env.locals
 inj:∀ x y c,X.env.cells.lookup x=some c->X.env.cells.lookup y=some c->x=y
 has:∀ x,(X.env.kindOf x=some .cell∨X.env.kindOf x=some .free)->∃ c,X.env.cells.lookup x=some c
 cab:∀ x c,X.fn x=true->X.env.cells.lookup x=some c->X.s₀.heap.objs.size<=c
 hd:X.calm=true->X.A.handled=none
 frames:X.A.frames=some X.stack
 stk:X.stack=X.outer∨(X.stack=X.env::X.outer/\X.env.frame=some X.env.locals)
 exf:∀ b∈X.ex,b≠X.env.locals/\∀ x c,X.env.cells.lookup x=some c->c≠b
 bs:∀ b o,X.base.get? b=some o->X.s₀.heap.get? b=some o/\X.H₀ b=none
 bsz:X.base.objs.size<=X.s₀.heap.objs.size
 noex:∀ b o,X.base.get? b=some o->b∉X.ex
 exfs:∀ b∈X.ex,b∉X.fs
 funs:X.s₀.heap.FunFrames X.base X.outer
 frf:∀ b∈X.fs,X.H₀ b=none
structure Inv (X:Cx) (pins:List (Addr×Obj)) (σ:List (Option V)) (H:Hp) (s:Shared):Prop where
 ok:X.Ok
 os:s.os=X.s₀.os
 bare:AllBare s.gens
 base:Un X.fs X.ex X.H₀ H X.s₀.heap s.heap
 loc:∃ m,s.heap.Ns X.env.locals m/\∀ (i:Nat) (x:Str) (v:V),X.N[i]?=some x->σ[i]?=some (some v)->Vis X.env.scope x->∃ u,bJ v u/\aEU X.env s.heap m x u
 cell:∀ x c,X.env.cells.lookup x=some c->∃ v,s.heap.IsCell c v
 free:H X.env.locals=none
 freeC:∀ x c,X.env.cells.lookup x=some c->H c=none
 pin:∀ p∈X.pn++pins,s.heap.get? p.1=some p.2/\H p.1=none/\p.1≠X.env.locals/\p.1∉X.fs/\∀ v,p.2.data≠.cell v
 hok:HOk X.prog X.w H s.heap
 len:σ.length=X.N.length
section
variable {X:Cx} {pins:List (Addr×Obj)} {σ:List (Option V)} {H H':Hp} {s:Shared} {h':Heap}
theorem Cx.Ok.nofr (ok:X.Ok) {b:Addr} {o:Obj} (e:X.base.get? b=some o):b∉X.fs:=fun hb=>by
 have:=(ok.funs.mem hb).1
 rw [e] at this; cases this
theorem Inv.bs (I:Inv X pins σ H s):∀ b o,X.base.get? b=some o->s.heap.get? b=some o/\H b=none:=fun b o e =>
 ⟨I.base.keep b o (I.ok.bs b o e).1 (I.ok.bs b o e).2 (I.ok.nofr e) (I.ok.noex b o e),I.base.free b o (I.ok.bs b o e).1 (I.ok.bs b o e).2 (I.ok.noex b o e)⟩
theorem Inv.bk (I:Inv X pins σ H s):∀ b o,X.base.get? b=some o->s.heap.get? b=some o:=fun b o e=>(I.bs b o e).1
theorem Inv.mod (I:Inv X pins σ H s):Mod X.K X.mg X.base:=I.ok.mod
theorem Inv.kIn (I:Inv X pins σ H s):X.K.In s.heap:=I.ok.mod.kin.keeps I.bk
theorem Inv.nolimit (I:Inv X pins σ H s):s.heap.NoLimit:=I.ok.mod.nolimit.keeps I.bk
theorem Inv.fr (I:Inv X pins σ H s):∃ m,Fr X.base X.env.locals s.heap m :=
 let ⟨m,hn,_⟩:=I.loc
 ⟨m,hn,I.bk,Qx I.ok.bsz I.ok.above⟩
theorem Inv.lt (I:Inv X pins σ H s):X.env.locals < s.heap.objs.size:=let ⟨_,hn,_⟩:=I.loc; hn.lt
theorem Inv.sz (I:Inv X pins σ H s):X.s₀.heap.objs.size<=s.heap.objs.size:=Qx I.ok.above (Xu I.lt)
theorem Inv.nofs (I:Inv X pins σ H s) {a:Addr} (h:s.heap.objs.size<=a):a∉X.fs:=fun hb=>by
 obtain ⟨_,o,ho,_⟩:=I.ok.funs.mem hb
 exact absurd (Qp (Ql ho) (Qx I.sz h)) (Jb _)
theorem Inv.cne (I:Inv X pins σ H s):∀ x c,X.env.cells.lookup x=some c->c≠X.env.locals:=fun x c e z=>by
 obtain ⟨v,o,ho,hd⟩:=I.cell x c e
 obtain ⟨m,⟨o',es,ep,ho',hd',_⟩,_⟩:=I.loc
 rw [z,ho'] at ho; cases ho; rw [hd'] at hd; cases hd
theorem Inv.funs (I:Inv X pins σ H s):s.heap.FunFrames X.base X.outer:=by
 have all:∀ (l:List Env),(∀ b∈frs l,b∈X.fs)->X.s₀.heap.FunFrames X.base l->s.heap.FunFrames X.base l:=by
  intro l
  induction l with
  | nil=>intro _ _; trivial
  | cons env r ih =>
   intro hs hl
   obtain ⟨hk,⟨L,o,hf,hn,ho,hd⟩,hr⟩:=hl
   have hL:L∈X.fs:=hs L (by unfold frs; rw [Ju,hf]; exact Qo)
   obtain ⟨sl,e⟩:=I.base.slot L o ho (I.ok.frf L hL) hL fun z=>I.ok.exfs L z hL
   exact ⟨hk,⟨L,_,hf,hn,e,hd⟩,ih (fun b hb=>hs b (by unfold frs; rw [Ju,hf]; exact Qm _ hb)) hr⟩
 exact all X.outer (fun _ hb=>hb) I.ok.funs
theorem Inv.stack (I:Inv X pins σ H s):s.heap.FunFrames X.base X.stack:=by
 rcases I.ok.stk with e | ⟨e,hf⟩
 ·rw [e]; exact I.funs
 ·rw [e]
  obtain ⟨m,hn,_⟩:=I.loc
  refine .cons (by rw [I.ok.kind]; decide) hf hn ?_ I.funs
  exact Heap.get?_none_of_le (Qx I.ok.bsz I.ok.above)
theorem Inv.stkSub (I:Inv X pins σ H s):∀ b∈frs X.stack,b∈X.env.locals::X.fs:=fun b hb=>by
 rcases I.ok.stk with e | ⟨e,hf⟩
 ·rw [e] at hb; exact Qm _ hb
 ·rw [e] at hb
  unfold frs at hb
  rw [Ju,hf] at hb
  exact hb
theorem Inv.stkFree (I:Inv X pins σ H s):∀ b∈frs X.stack,H b=none:=fun b hb=>by
 rcases Qk.mp (I.stkSub b hb) with e | hb
 ·rw [e]; exact I.free
 ·obtain ⟨_,o,ho,_⟩:=I.ok.funs.mem hb
  exact I.base.free b o ho (I.ok.frf b hb) fun z=>I.ok.exfs b z hb
theorem Inv.step {g':Array GenState} {t':Nat} {d':Drawn} {ch:List Addr} (I:Inv X pins σ H s)
  (hch:∀ b∈ch,(b∈X.ex∨X.s₀.heap.objs.size<=b)/\b≠X.env.locals/\(∀ x c,X.env.cells.lookup x=some c->c≠b)/\∀ p∈X.pn++pins,p.1≠b)
  (keep:∀ b o,b≠X.env.locals->b∉X.fs->b∉ch->s.heap.get? b=some o->H b=none->h'.get? b=some o)
  (slot:∀ b o,b≠X.env.locals->b∈X.fs->b∉ch->s.heap.get? b=some o->H b=none->∃ sl,h'.get? b=some { o with slots:=sl }) (free:∀ b o,b∉ch->s.heap.get? b=some o->H b=none->H' b=none)
  (there:∀ b o,b∉ch->s.heap.get? b=some o->∃ o',h'.get? b=some o')
  (tups:∀ b xs,H b=some (.tup xs)->H' b=some (.tup xs)) (frzs:∀ b o u,H b=some (.frz o u)->H' b=some (.frz o u)) (tbls:∀ b ps,H b=some (.tbl ps)->∃ more,H' b=some (.tbl (ps++more)))
  (ns:∀ m,s.heap.Ns X.env.locals m->h'.Ns X.env.locals m) (hok:HOk X.prog X.w H' h') (hg:AllBare g') :
  Inv X pins σ H' { s with heap:=h',gens:=g',drawn:=d',toks:=t' }:=by
 have neL:∀ b o,X.s₀.heap.get? b=some o->b≠X.env.locals:=fun b o e=>Qt (Qp (Ql e) I.ok.above)
 have neC:∀ b o,X.s₀.heap.get? b=some o->b∉X.ex->b∉ch:=fun b o e hx hb=>by
  rcases (hch b hb).1 with z | z
  ·exact hx z
  ·exact absurd (Qp (Ql e) z) (Jb _)
 have cellK:∀ x c,X.env.cells.lookup x=some c->∀ v,s.heap.IsCell c v->h'.IsCell c v:=fun x c e v ⟨o,ho,hd⟩=>by
  have nch:c∉ch:=fun z=>(hch c z).2.2.1 x c e rfl
  by_cases hc:c∈X.fs
  ·obtain ⟨sl,q⟩:=slot c o (I.cne x c e) hc nch ho (I.freeC x c e)
   exact ⟨_,q,hd⟩
  ·exact ⟨o,keep c o (I.cne x c e) hc nch ho (I.freeC x c e),hd⟩
 refine ⟨I.ok,I.os,hg,⟨fun b o e n hb hx=>?_,fun b o e n hb hx=>?_,fun b o e n hx=>?_,fun b o e hx=>?_,fun b xs e=>tups b xs (I.base.tups b xs e),fun b o xs e=>frzs b o xs (I.base.frzs b o xs e),fun b ps e=>?_⟩,?_,fun x c e=>?_,?_,fun x c e=>?_,fun p hp=>?_,hok,I.len⟩
 ·exact keep b o (neL b o e) hb (neC b o e hx) (I.base.keep b o e n hb hx) (I.base.free b o e n hx)
 ·obtain ⟨sl,e1⟩:=I.base.slot b o e n hb hx
  obtain ⟨sl',e2⟩:=slot b _ (neL b o e) hb (neC b o e hx) e1 (I.base.free b o e n hx)
  exact ⟨sl',e2⟩
 ·obtain ⟨o',e1⟩:=I.base.there b o e hx
  exact free b o' (neC b o e hx) e1 (I.base.free b o e n hx)
 ·obtain ⟨o',e1⟩:=I.base.there b o e hx
  exact there b o' (neC b o e hx) e1
 ·obtain ⟨m1,e1⟩:=I.base.tbls b ps e
  obtain ⟨m2,e2⟩:=tbls b _ e1
  exact ⟨m1++m2,by rw [e2,Array.append_assoc]⟩
 ·obtain ⟨m,hn,hl⟩:=I.loc
  refine ⟨m,ns m hn,fun i x v e1 e2 e3=>?_⟩
  obtain ⟨u,r,l⟩:=hl i x v e1 e2 e3
  refine ⟨u,r,?_⟩
  rcases l with l | ⟨k,c,e,z⟩
  ·exact .inl l
  ·exact .inr ⟨k,c,e,cellK x c e _ z⟩
 ·obtain ⟨v,z⟩:=I.cell x c e
  exact ⟨v,cellK x c e v z⟩
 ·obtain ⟨m,⟨o,_,_,ho,_⟩,_⟩:=I.loc
  exact free _ o (fun z=>(hch _ z).2.1 rfl) ho I.free
 ·obtain ⟨v,o,ho,hd⟩:=I.cell x c e
  exact free c o (fun z=>(hch c z).2.2.1 x c e rfl) ho (I.freeC x c e)
 ·obtain ⟨e,n,ne,nf,d⟩:=I.pin p hp
  have nch:p.1∉ch:=fun z=>(hch p.1 z).2.2.2 p hp rfl
  exact ⟨keep p.1 p.2 ne nf nch e n,free p.1 p.2 nch e n,ne,nf,d⟩
theorem Inv.un {t':Nat} (I:Inv X pins σ H s) (u:Un X.fs [] H H' s.heap h') (hok:HOk X.prog X.w H' h'):Inv X pins σ H' { s with heap:=h',toks:=t' }:=by
 obtain ⟨m,⟨o,es,ep,ho,r⟩,_⟩:=id I.loc
 obtain ⟨sl,hL⟩:=u.any ho I.free (by simp)
 exact I.step (g':=s.gens) (d':=s.drawn) (ch:=[]) (fun _ z=>nomatch z) (fun b o _ hb _ e n=>u.keep b o e n hb (by simp)) (fun b o _ hb _ e n=>u.slot b o e n hb (by simp)) (fun b o _ e n=>u.free b o e n (by simp)) (fun b o _ e=>u.there b o e (by simp)) u.tups u.frzs u.tbls (fun m' hm=>by
  obtain ⟨o',es',ep',ho',r'⟩:=hm
  rw [ho] at ho'; cases ho'
  exact ⟨_,es',ep',hL,r'⟩) hok I.bare
theorem Inv.call {g':Array GenState} {t':Nat} {d':Drawn} {ch:List Addr} (I:Inv X pins σ H s) (u:Un (frs X.stack) ch H H' s.heap h') (hok:HOk X.prog X.w H' h') (hg:AllBare g')
  (hch:∀ b∈ch,(b∈X.ex∨X.s₀.heap.objs.size<=b)/\b≠X.env.locals/\(∀ x c,X.env.cells.lookup x=some c->c≠b)/\∀ p∈X.pn++pins,p.1≠b) :
  Inv X pins σ H' { s with heap:=h',gens:=g',drawn:=d',toks:=t' }:=by
 obtain ⟨m,⟨o,es,ep,ho,r⟩,_⟩:=id I.loc
 obtain ⟨sl,hL⟩:=u.any ho I.free fun z=>(hch _ z).2.1 rfl
 exact I.step (ch:=ch) hch (fun b o hL hb hc e n=>u.keep b o e n (fun z=>(Qk.mp (I.stkSub b z)).elim hL hb) hc) (fun b o _ _ hc e n=>u.any e n hc) (fun b o hc e n=>u.free b o e n hc) (fun b o hc e=>u.there b o e hc) u.tups u.frzs u.tbls (fun m' hm=>by
  obtain ⟨o',es',ep',ho',r'⟩:=hm
  rw [ho] at ho'; cases ho'
  exact ⟨_,es',ep',hL,r'⟩) hok hg
theorem Inv.turned {t':Nat} {it:Addr} (I:Inv X pins σ H s) (k:∀ b o,b≠it->s.heap.get? b=some o->h'.get? b=some o) (hn:H it=none) (hL:it≠X.env.locals)
  (h1:it∈X.ex∨X.s₀.heap.objs.size<=it) (h2:∀ x c,X.env.cells.lookup x=some c->c≠it) (h3:∀ p∈X.pn++pins,p.1≠it):Inv X pins σ H { s with heap:=h',toks:=t' }:=by
 have nit:∀ b u,H b=some u->b≠it:=fun b u e z=>by rw [z,hn] at e; cases e
 refine I.step (g':=s.gens) (d':=s.drawn) (ch:=[it]) (fun b hb=>?_) (fun b o _ _ hc e _=>k b o (fun z=>hc (by simp [z])) e) (fun b o _ _ hc e _=>⟨o.slots,k b o (fun z=>hc (by simp [z])) e⟩) (fun _ _ _ _ n=>n)
  (fun b o hc e=>⟨o,k b o (fun z=>hc (by simp [z])) e⟩) (fun _ _ e=>e) (fun _ _ _ e=>e) (fun b ps e=>⟨#[],by rw [e]; simp⟩) (fun m hm=>?_) (fun b u e=>?_) I.bare
 ·have e:b=it:=by simpa using hb
  subst e
  exact ⟨h1,hL,h2,h3⟩
 ·obtain ⟨o,es,ep,ho,r⟩:=hm
  exact ⟨o,es,ep,k _ o (Ne.symm hL) ho,r⟩
 ·refine (I.hok b u e).stay (fun c v hc q=>k c v ?_ q) (fun _ q=>q) fun _ _ q=>q
  rcases hc with z | z
  ·rw [z]; exact nit b u e
  ·exact nit c _ z
theorem Inv.tok (I:Inv X pins σ H s) (t:Nat):Inv X pins σ H { s with toks:=t }:=I.un (h':=s.heap) (t':=t) Un.refl I.hok
theorem Inv.kept {t':Nat} (I:Inv X pins σ H s) (k:∀ b u,s.heap.get? b=some u->h'.get? b=some u):Inv X pins σ H { s with heap:=h',toks:=t' }:=I.un (Un.kept k) (I.hok.kept k)
theorem Inv.laid {a:Addr} {o:HO} {t':Nat} (I:Inv X pins σ H s) (k:∀ b u,s.heap.get? b=some u->h'.get? b=some u) (hp:s.heap.objs.size<=a) (new:bL X.prog X.w (upd H a o) h' a o) :
  Inv X pins σ (upd H a o) { s with heap:=h',toks:=t' }:=I.un (Un.laid k hp (I.hok.fresh hp)) (I.hok.laid k hp new)
theorem Inv.write {x e:Addr} {o:HO} {t':Nat} (I:Inv X pins σ H s) (mu:Mut (H x)) (he:e=x∨H e=some (.own x)) (k:∀ b u,b≠e->s.heap.get? b=some u->h'.get? b=some u) (heo:∃ u,h'.get? e=some u)
  (new:bL X.prog X.w (upd H x o) h' x o):Inv X pins σ (upd H x o) { s with heap:=h',toks:=t' }:=I.un (Un.write mu he k heo) (I.hok.write mu he k heo new)
theorem Inv.weak {σ':List (Option V)} (I:Inv X pins σ H s) (hl:σ'.length=σ.length) (w:∀ (i:Nat) v,σ'[i]?=some (some v)->σ[i]?=some (some v)):Inv X pins σ' H s :=
 ⟨I.ok,I.os,I.bare,I.base,let ⟨m,hn,hl'⟩:=I.loc; ⟨m,hn,fun i x v e1 e2 e3=>hl' i x v e1 (w i v e2) e3⟩,I.cell,I.free,I.freeC,I.pin,I.hok,hl.trans I.len⟩
theorem Inv.pins_of {pins':List (Addr×Obj)} (I:Inv X pins σ H s) (h:∀ p∈pins',s.heap.get? p.1=some p.2/\H p.1=none/\p.1≠X.env.locals/\p.1∉X.fs/\∀ v,p.2.data≠.cell v):Inv X pins' σ H s :=
 ⟨I.ok,I.os,I.bare,I.base,I.loc,I.cell,I.free,I.freeC,fun p hp=>(Jf.mp hp).elim (fun z=>I.pin p (Jq _ z)) (h p),I.hok,I.len⟩
theorem oQ {N:List Str} (hN:N.Nodup) {i j:Nat} {x:Str} (a:N[i]?=some x) (b:N[j]?=some x):i=j:=by
 obtain ⟨h1,e1⟩:=Qc.mp a
 obtain ⟨h2,e2⟩:=Qc.mp b
 exact (List.getElem_inj hN).mp (e1.trans e2.symm)
theorem mT {M:Model} {A:Around} {E:Value->Shared->Prop} {i:Nat} {x:Str} {v:V} {u:Value} {Q:Unit->Shared->Prop} (I:Inv X pins σ H s) (hN:X.N.Nodup) (hi:X.N[i]?=some x) (hx:Loc X.env.scope x) (r:bJ v u)
  (h:∀ s',Inv X pins (σ.set i (some v)) H s'->(∃ a,Heap.SameBut a s.heap s'.heap/\(a=X.env.locals∨X.env.cells.lookup x=some a))->Q () s') (hf:X.fn x=true∨X.env.scope.names.lookup x=some .local:=by first | exact .inl rfl | exact .inr rfl | assumption):wpAny M A (storeName X.env x u) Q E s:=by
 obtain ⟨m,hn,hl⟩:=id I.loc
 have hcls:(X.env.scope.kind==.class || (X.env.scope.kind==.module && X.env.locals !=X.env.globals))=false:=by rw [I.ok.kind]; rfl
 have hiσ:i < σ.length:=by rw [I.len]; exact (Qc.mp hi).1
 have cne:=I.cne
 have tracked:∀ {a:Addr} {h':Heap},(∃ o,s.heap.get? a=some o/\H a=none)->Heap.SameBut a s.heap h'->HOk X.prog X.w H h':=fun {a h'} ha hs b ob e=>by
  obtain ⟨_,_,hfree⟩:=ha
  refine (I.hok b ob e).stay (fun c w' hc q=>(hs.2 c ?_).trans q) (fun _ q=>q) fun _ _ q=>q
  rintro rfl
  rcases hc with rfl | hc
  ·rw [hfree] at e; cases e
  ·rw [hfree] at hc; cases hc
 rcases hx with hk | hk
 ·refine wpAny_storeName_local hk hn (fun h' hn' hs=>?_) hcls
  obtain ⟨oL,_,_,hoL,_⟩:=id hn
  refine h _ ⟨I.ok,I.os,I.bare,⟨fun b o e n hb hx=>?_,fun b o e n hb hx=>?_,I.base.free,fun b o e hx=>?_,I.base.tups,I.base.frzs,I.base.tbls⟩,⟨_,hn',fun j y v' e1 e2 e3=>?_⟩,fun y c e=>?_,I.free,I.freeC,fun p hp=>?_,tracked ⟨oL,hoL,I.free⟩ hs,by simpa using I.len⟩ ⟨_,hs,.inl rfl⟩
  ·exact (hs.2 b (Qt (Qp (Ql e) I.ok.above))).trans (I.base.keep b o e n hb hx)
  ·obtain ⟨sl,e1⟩:=I.base.slot b o e n hb hx
   exact ⟨sl,(hs.2 b (Qt (Qp (Ql e) I.ok.above))).trans e1⟩
  ·obtain ⟨o',e1⟩:=I.base.there b o e hx
   exact ⟨o',(hs.2 b (Qt (Qp (Ql e) I.ok.above))).trans e1⟩
  ·by_cases hj:j=i
   ·subst hj
    rw [hi] at e1; cases e1
    rw [Xx hiσ] at e2
    cases e2
    exact ⟨u,r,.inl ⟨hk,by simp⟩⟩
   ·rw [Zd (Ne.symm hj)] at e2
    obtain ⟨u',r',q⟩:=hl j y v' e1 e2 e3
    refine ⟨u',r',?_⟩
    rcases q with ⟨k,e⟩ | ⟨k,c,e,z⟩
    ·refine .inl ⟨k,?_⟩
     have:y≠x:=fun e=>hj (oQ hN e1 (e ▸ hi))
     simp [this,e]
    ·exact .inr ⟨k,c,e,z.sameBut hs (cne y c e)⟩
  ·obtain ⟨w',z⟩:=I.cell y c e
   exact ⟨w',z.sameBut hs (cne y c e)⟩
  ·obtain ⟨e,n,ne,nf,d⟩:=I.pin p hp
   exact ⟨(hs.2 p.1 ne).trans e,n,ne,nf,d⟩
 ·have hfn:X.fn x=true:=by
   rcases hf with z | z
   ·exact z
   ·rw [z] at hk; cases hk
  obtain ⟨c,hc⟩:=I.ok.has x (.inl hk)
  obtain ⟨w',z⟩:=I.cell x c hc
  refine wpAny_storeName_cell I.ok.kind hk hc z (fun h' hc' hs=>?_)
  obtain ⟨oc,hoc,hocd⟩:=id z
  refine h { s with heap:=h' } ⟨I.ok,I.os,I.bare,⟨fun b o e n hb hx=>?_,fun b o e n hb hx=>?_,I.base.free,fun b o e hx=>?_,I.base.tups,I.base.frzs,I.base.tbls⟩,⟨m,hn.sameBut hs (Ne.symm (cne x c hc)),fun j y v' e1 e2 e3=>?_⟩,fun y c' e=>?_,I.free,I.freeC,fun p hp=>?_,tracked ⟨oc,hoc,I.freeC x c hc⟩ hs,by simpa using I.len⟩ ⟨c,hs,.inr hc⟩
  ·exact (hs.2 b (Qt (Qp (Ql e) (I.ok.cab x c hfn hc)))).trans (I.base.keep b o e n hb hx)
  ·obtain ⟨sl,e1⟩:=I.base.slot b o e n hb hx
   exact ⟨sl,(hs.2 b (Qt (Qp (Ql e) (I.ok.cab x c hfn hc)))).trans e1⟩
  ·obtain ⟨o',e1⟩:=I.base.there b o e hx
   exact ⟨o',(hs.2 b (Qt (Qp (Ql e) (I.ok.cab x c hfn hc)))).trans e1⟩
  ·by_cases hj:j=i
   ·subst hj
    rw [hi] at e1; cases e1
    rw [Xx hiσ] at e2
    cases e2
    exact ⟨u,r,.inr ⟨.inl hk,c,hc,hc'⟩⟩
   ·rw [Zd (Ne.symm hj)] at e2
    obtain ⟨u',r',q⟩:=hl j y v' e1 e2 e3
    refine ⟨u',r',?_⟩
    rcases q with q | ⟨k,c',e,z'⟩
    ·exact .inl q
    ·refine .inr ⟨k,c',e,z'.sameBut hs ?_⟩
     rintro rfl
     exact hj (oQ hN e1 (I.ok.inj _ _ _ e hc ▸ hi))
  ·by_cases hcc:c'=c
   ·subst hcc; exact ⟨_,hc'⟩
   ·obtain ⟨w2,z2⟩:=I.cell y c' e
    exact ⟨w2,z2.sameBut hs hcc⟩
  ·obtain ⟨e,n,ne,nf,d⟩:=I.pin p hp
   refine ⟨(hs.2 p.1 ?_).trans e,n,ne,nf,d⟩
   intro q
   rw [q,hoc] at e
   have q':oc=p.2:=Option.some.inj e
   exact d w' (by rw [<- q']; exact hocd)
theorem uV {M:Model} {A:Around} {E:Value->Shared->Prop} {i:Nat} {x:Str} {v:V} {u:Value} {Q:Unit->Shared->Prop} (I:Inv X pins σ H s) (hN:X.N.Nodup) (hi:X.N[i]?=some x) (hx:Loc X.env.scope x) (r:bJ v u)
  (h:∀ s',Inv X pins (σ.set i (some v)) H s'->Q () s') (hf:X.fn x=true∨X.env.scope.names.lookup x=some .local:=by first | exact .inl rfl | exact .inr rfl | assumption):wpAny M A (storeName X.env x u) Q E s :=
 mT I hN hi hx r (fun s' I' _=>h s' I') hf
theorem Inv.call' {s':Shared} {ch:List Addr} (I:Inv X pins σ H s) (ho:s'.os=s.os) (u:Un (frs X.stack) ch H H' s.heap s'.heap) (hok:HOk X.prog X.w H' s'.heap) (hg:AllBare s'.gens)
  (hch:∀ b∈ch,(b∈X.ex∨X.s₀.heap.objs.size<=b)/\b≠X.env.locals/\(∀ x c,X.env.cells.lookup x=some c->c≠b)/\∀ p∈X.pn++pins,p.1≠b):Inv X pins σ H' s':=by
 obtain ⟨h',g',d',t',o'⟩:=s'
 have e:o'=s.os:=ho
 subst e
 exact I.call (g':=g') (t':=t') (d':=d') u hok hg hch
end
abbrev XK:=Value->Option Addr->Hp->Prop
abbrev St:=List (Option V)
abbrev VK:=V->Hp->Prop
abbrev TE:=St->Hp->VK->Prop
abbrev TT:=St->Hp->(Bool->Hp->Prop)->Prop
abbrev TA:=St->Hp->(List V->Hp->Prop)->Prop
structure Ends where
 nx:St->Hp->Prop
 rt:VK
 bk:St->Hp->Prop:=fun _ _=>False
 ct:St->Hp->Prop:=fun _ _=>False
abbrev TS:=Ends->St->Hp->Prop
def EP (X:Cx) (pins:List (Addr×Obj)) (σ:St) (Q:VK) (u:Value) (s':Shared):Prop:=∃ v H',Inv X pins σ H' s'/\bJ v u/\Q v H'
def TP (X:Cx) (pins:List (Addr×Obj)) (σ:St) (Q:Bool->Hp->Prop) (b:Bool) (s':Shared):Prop:=∃ H',Inv X pins σ H' s'/\Q b H'
def AP (X:Cx) (pins:List (Addr×Obj)) (σ:St) (Q:List V->Hp->Prop) (us:List Value) (s':Shared):Prop:=∃ vs H',Inv X pins σ H' s'/\aZ vs us/\Q vs H'
def SP (X:Cx) (pins:List (Addr×Obj)) (D:Ends) (f:Flow) (s':Shared):Prop :=
 match f with
 | .next=>∃ σ' H',Inv X pins σ' H' s'/\D.nx σ' H'
 | .brk=>∃ σ' H',Inv X pins σ' H' s'/\D.bk σ' H'
 | .cont=>∃ σ' H',Inv X pins σ' H' s'/\D.ct σ' H'
 | .ret u=>∃ v σ' H',Inv X pins σ' H' s'/\bJ v u/\D.rt v H'
def PE (X:Cx) (e:Expr) (t:TE):Prop :=
 ∀ (pins:List (Addr×Obj)) (s:Shared) (σ:St) (H:Hp) (Q:VK),Inv X pins σ H s->t σ H Q->wpAny (model X.prog X.w) X.A (eval e X.env) (EP X pins σ Q) X.xe s
def PT (X:Cx) (e:Expr) (t:TT):Prop :=
 ∀ (pins:List (Addr×Obj)) (s:Shared) (σ:St) (H:Hp) (Q:Bool->Hp->Prop),Inv X pins σ H s->t σ H Q->wpAny (model X.prog X.w) X.A (isTrue e X.env (eval e X.env)) (TP X pins σ Q) X.xe s
def PW (X:Cx) (e:Expr) (t:TT):Prop :=
 ∀ (whole:Sem Value) (pins:List (Addr×Obj)) (s:Shared) (σ:St) (H:Hp) (Q:Bool->Hp->Prop),Inv X pins σ H s->t σ H Q->wpAny (model X.prog X.w) X.A (isTrue e X.env whole) (TP X pins σ Q) X.xe s
theorem PW.pt {X:Cx} {e:Expr} {t:TT} (h:PW X e t):PT X e t:=h _
def PA (X:Cx) (es:List Expr) (t:TA):Prop :=
 ∀ (pos:Pos) (pins:List (Addr×Obj)) (s:Shared) (σ:St) (H:Hp) (Q:List V->Hp->Prop),Inv X pins σ H s->t σ H Q->wpAny (model X.prog X.w) X.A (spliced (backTo pos (starEach es X.env))) (AP X pins σ Q) X.xe s
def PS (X:Cx) (st:Stmt) (t:TS):Prop :=
 ∀ (pins:List (Addr×Obj)) (s:Shared) (σ:St) (H:Hp) (D:Ends),Inv X pins σ H s->t D σ H->wpAny (model X.prog X.w) X.A (exec st X.env) (SP X pins D) X.xe s
def PSs (X:Cx) (st:List Stmt) (t:TS):Prop :=
 ∀ (pins:List (Addr×Obj)) (s:Shared) (σ:St) (H:Hp) (D:Ends),Inv X pins σ H s->t D σ H->wpAny (model X.prog X.w) X.A (execs st X.env) (SP X pins D) X.xe s
theorem thn {α:Type} {t:Sem α} {Q Q':α->Shared->Prop} {M:Model} {A:Around} {E:Value->Shared->Prop} {s:Shared} (h:wpAny M A t Q E s) (hQ:∀ a s,Q a s->Q' a s):wpAny M A t Q' E s:=wpAny_mono h hQ fun _ _ x=>x
section
variable {X:Cx}
def jK (i:Nat):TE:=fun σ H Q=>∃ v,σ[i]?=some (some v)/\Q v H
abbrev tC (v:V):TE:=fun _ H Q=>Q v H
theorem aBb {i:Nat} {x:Str} {pos:Pos} (hN:X.N[i]?=some x) (hv:Vis X.env.scope x) (hd:(x==("__debug__" : Str))=false:=by decide) (hcd:(x==("__classdict__" : Str))=false:=by decide):PE X (.Name x pos) (jK i):=by
 intro pins s σ H Q I h
 obtain ⟨v,e,h⟩:=h
 obtain ⟨m,hn,hl⟩:=I.loc
 obtain ⟨u,r,l⟩:=hl i x v hN e hv
 have fin:EP X pins σ Q u s:=⟨v,H,I,r,h⟩
 rcases l with ⟨hk,hm⟩ | ⟨hk,c,hc,hcell⟩
 ·exact wpAny_Name (wpAny_loadName_local I.ok.kind hk hn hm fin) hd
 ·rcases hk with hk | hk
  ·exact wpAny_Name (wpAny_loadName_cell I.ok.kind hk hc hcell fin) hd
  ·exact wpAny_Name (wpAny_loadName_free I.ok.kind hk hc hcell fin hcd) hd
theorem aH {i j pos}:PE X (.Constant (.int i) j pos) (tC (.int i)):=fun _ _ _ H _ I h=>wpAny_Constant_int ⟨.int i,H,I.tok _,⟨_,rfl⟩,h⟩
theorem eX {b j pos}:PE X (.Constant (.bool b) j pos) (tC (.bl b)):=fun _ _ _ H _ I h=>Constant_bool ⟨.bl b,H,I,rfl,h⟩
theorem iR {j pos}:PE X (.Constant .none j pos) (tC .non):=fun _ _ _ H _ I h=>Constant_none ⟨.non,H,I,rfl,h⟩
theorem iS {x j pos}:PE X (.Constant (.str x) j pos) (tC (.str x)):=fun _ _ _ H _ I h=>Calls.Constant_str ⟨.str x,H,I.tok _,⟨_,rfl⟩,h⟩
def Gl (X:Cx) (x:Str):Prop:=X.env.kindOf x=some .globalImplicit
theorem kP {E:Value->Shared->Prop} {pins:List (Addr×Obj)} {s:Shared} {σ:St} {H:Hp} {x:Str} {u:Value} {pos:Pos} {Q:Value->Shared->Prop} (I:Inv X pins σ H s) (hg:Gl X x) (hm:X.mg x=some u) (h:Q u s)
  (hd:(x==("__debug__" : Str))=false:=by decide):wpAny (model X.prog X.w) X.A (eval (.Name x pos) X.env) Q E s :=
 Calls.Name_function_global I.ok.kind hg (Calls.loadGlobal_global (by rw [I.ok.glob]; exact I.mod.glob.keeps I.bk) hm h) hd
theorem iB {E:Value->Shared->Prop} {pins:List (Addr×Obj)} {s:Shared} {σ:St} {H:Hp} {x:Str} {u:Value} {pos:Pos} {Q:Value->Shared->Prop} (I:Inv X pins σ H s) (hg:Gl X x) (hm:X.mg x=none) (hv:bootBuiltins x=some u) (h:Q u s)
  (hn:x ≠ "__name__" := by decide) (hd:(x==("__debug__" : Str))=false:=by decide):wpAny (model X.prog X.w) X.A (eval (.Name x pos) X.env) Q E s:=by
 obtain ⟨mb,h1,h2⟩:=I.mod.blt
 exact Calls.Name_function_global I.ok.kind hg (Calls.loadGlobal_builtin (by rw [I.ok.glob]; exact I.mod.glob.keeps I.bk) hm (by rw [I.ok.blt]; exact h1.keeps I.bk) ((h2 x hn).trans hv) h) hd
theorem lY {x:Str} {v:V} {u:Value} {pos:Pos} (hg:Gl X x) (hm:X.mg x=some u) (r:bJ v u) (hd:(x==("__debug__" : Str))=false:=by decide):PE X (.Name x pos) (tC v) :=
 fun _ _ _ H _ I h=>kP I hg hm ⟨v,H,I,r,h⟩ hd
theorem gI {x:Str} {v:V} {u:Value} {pos:Pos} (hg:Gl X x) (hm:X.mg x=none) (hv:bootBuiltins x=some u) (r:bJ v u) (hn:x ≠ "__name__" := by decide) (hd:(x==("__debug__" : Str))=false:=by decide):PE X (.Name x pos) (tC v) :=
 fun _ _ _ H _ I h=>iB I hg hm hv ⟨v,H,I,r,h⟩ hn hd
variable {a b:Expr} {ta tb:TE} {pos:Pos}
def PC (X:Cx) (op:CmpOp) (a b:Expr) (t:TE):Prop :=
 ∀ (pins:List (Addr×Obj)) (s:Shared) (σ:St) (H:Hp) (Q:VK),Inv X pins σ H s->t σ H Q ->
  wpAny (model X.prog X.w) X.A (eval a X.env) (fun v s₁=>wpAny (model X.prog X.w) X.A (eval b X.env) (fun u s₂=>wpAny (model X.prog X.w) X.A (compareOp op v u) (EP X pins σ Q) X.xe s₂) X.xe s₁) X.xe s
theorem aBc (b:Expr) {op:CmpOp} (h:op≠.In) (h2:op≠.NotIn):behindInMarks op b=false:=by
 have e1:(op==CmpOp.In)=false:=by cases op <;> first | rfl | exact absurd rfl h
 have e2:(op==CmpOp.NotIn)=false:=by cases op <;> first | rfl | exact absurd rfl h2
 cases b <;> simp [behindInMarks,e1,e2]
def aEV (ta:TE):TE:=fun σ H Q=>ta σ H fun x H1=>Q (.bl (!decide (x=.non))) H1
theorem bJ.none_iff {x:V} {v:Value} (r:bJ x v):(v==Value.none)=decide (x=.non):=by
 cases x with
 | non=>cases r; rfl
 | bl _=>cases r; rfl
 | int _=>obtain ⟨t,rfl⟩:=r; rfl
 | str _=>obtain ⟨t,rfl⟩:=r; rfl
 | byt _=>obtain ⟨t,rfl⟩:=r; rfl
 | flt _=>obtain ⟨t,rfl⟩:=r; rfl
 | ref _=>cases r; rfl
 | ty _=>cases r; rfl
theorem aCF {j pos'} (ha:PE X a ta):PC X .IsNot a (.Constant .none j pos') (aEV ta):=by
 intro pins s σ H Q I h
 refine thn (ha pins s σ H _ I h) fun v s1 hx9=>?_
 obtain ⟨x,H1,I1,r1,q1⟩:=hx9
 exact Constant_none (isnot_none_gen ⟨.bl _,H1,I1,by rw [r1.none_iff]; rfl,q1⟩)
def tB (t:TE):TT:=fun σ H Q=>t σ H fun x H1=>∃ c,x=.bl c/\Q c H1
theorem xI {op:CmpOp} {t:TE} (h:PC X op a b t) (h1:behindInMarks op b=false:=by first | exact aBc _ (by decide) (by decide) | rfl):PT X (.Compare a [op] [b] pos) (tB t):=by
 intro pins s σ H Q I hw
 refine wpAny_isTrue_Compare1 (thn (h pins s σ H _ I hw) fun v s1 h1=>thn h1 fun u s2 h2=>thn h2 fun c s3 hx9=>?_) h1
 obtain ⟨x,H1,I1,r1,q1⟩:=hx9
 obtain ⟨d,rfl,q⟩:=q1
 cases r1
 exact wpAny_truthy_bool ⟨H1,I1,q⟩
theorem cZ {e:Expr} {t:TE} (h:PE X e t) (he:∀ whole,isTrue e X.env whole=(do let v<-whole; standAt e.pos; holding [v] (truthy v)):=by intro _; rfl):PT X e (tB t):=by
 intro pins s σ H Q I hw
 refine isTrue_plain (thn (h pins s σ H _ I hw) fun v s1 hx9=>?_) (he _)
 obtain ⟨x,H1,I1,r1,q1⟩:=hx9
 obtain ⟨d,rfl,q⟩:=q1
 cases r1
 exact wpAny_truthy_bool ⟨H1,I1,q⟩
variable {tA tB':TT} {rest:List Expr}
def aCG (t u:TT):TT:=fun σ H Q=>t σ H fun c H1=>if c=true then u σ H1 Q else Q false H1
def tOr (t u:TT):TT:=fun σ H Q=>t σ H fun c H1=>if c=true then Q true H1 else u σ H1 Q
def aFE (t:TT):TT:=fun σ H Q=>t σ H fun c H1=>Q (!c) H1
theorem kQ (ha:PT X a tA):PW X (.BoolOp .And [a] pos) tA:=by
 intro wh pins s σ H Q I h
 refine isTrue_and (thn (ha pins s σ H Q I h) fun c s1 e=>?_)
 cases c with
 | true=>exact isTrue_and_nil e
 | false=>exact e
theorem gE (ha:PT X a tA):PW X (.BoolOp .Or [a] pos) tA:=by
 intro wh pins s σ H Q I h
 refine isTrue_or (thn (ha pins s σ H Q I h) fun c s1 e=>?_)
 cases c with
 | false=>exact isTrue_or_nil e
 | true=>exact e
theorem mU (ha:PT X a tA) (hb:PW X (.BoolOp .And (b::rest) pos) tB'):PW X (.BoolOp .And (a::b::rest) pos) (aCG tA tB'):=by
 intro wh pins s σ H Q I h
 refine isTrue_and (thn (ha pins s σ H _ I h) fun c s1 hx9=>?_)
 obtain ⟨H1,I1,q1⟩:=hx9
 cases c with
 | true=>exact hb wh pins s1 σ H1 Q I1 q1
 | false=>exact ⟨H1,I1,q1⟩
theorem iI (ha:PT X a tA) (hb:PW X (.BoolOp .Or (b::rest) pos) tB'):PW X (.BoolOp .Or (a::b::rest) pos) (tOr tA tB'):=by
 intro wh pins s σ H Q I h
 refine isTrue_or (thn (ha pins s σ H _ I h) fun c s1 hx9=>?_)
 obtain ⟨H1,I1,q1⟩:=hx9
 cases c with
 | true=>exact ⟨H1,I1,q1⟩
 | false=>exact hb wh pins s1 σ H1 Q I1 q1
theorem dZ (ha:PT X a tA):PT X (.UnaryOp .Not a pos) (aFE tA):=by
 intro pins s σ H Q I h
 exact isTrue_not (ha pins s σ H (fun c H1=>Q (!c) H1) I h)
def aEW (ta tb:TE):TE:=fun σ H Q=>ta σ H fun x H1=>∃ c,x=.bl c/\if c=true then tb σ H1 Q else Q (.bl false) H1
def aEX (ta:TE):TE:=fun σ H Q=>ta σ H fun x H1=>∃ c,x=.bl c/\Q (.bl (!c)) H1
theorem tD {op} {t:TE} (h:PE X a t):PE X (.BoolOp op [a] pos) t:=fun pins s σ H Q I hw=>BoolOp_one (h pins s σ H Q I hw)
theorem tE (ha:PE X a ta) (hb:PE X (.BoolOp .And (b::rest) pos) tb):PE X (.BoolOp .And (a::b::rest) pos) (aEW ta tb):=by
 intro pins s σ H Q I h
 refine BoolOp_and (thn (ha pins s σ H _ I h) fun v s1 hx9=>?_)
 obtain ⟨x,H1,I1,r1,q1⟩:=hx9
 obtain ⟨c,rfl,q1⟩:=q1
 cases r1
 refine wpAny_truthy_bool ?_
 cases c with
 | true=>exact hb pins s1 σ H1 Q I1 q1
 | false=>exact ⟨.bl false,H1,I1,rfl,q1⟩
theorem aD3 (ha:PE X a ta):PE X (.UnaryOp .Not a pos) (aEX ta):=by
 intro pins s σ H Q I h
 refine UnaryOp_ (thn (ha pins s σ H _ I h) fun v s1 hx9=>?_)
 obtain ⟨x,H1,I1,r1,q1⟩:=hx9
 obtain ⟨c,rfl,q1⟩:=q1
 cases r1
 exact not_of (wpAny_truthy_bool ⟨.bl (!c),H1,I1,rfl,q1⟩)
def tIf (t:TT) (ta tb:TE):TE:=fun σ H Q=>t σ H fun c H1=>if c=true then ta σ H1 Q else tb σ H1 Q
theorem aBd {c:Expr} (hc:PT X c tA) (ha:PE X a ta) (hb:PE X b tb):PE X (.IfExp c a b pos) (tIf tA ta tb):=by
 intro pins s σ H Q I h
 refine wpAny_IfExp (thn (hc pins s σ H _ I h) fun d s1 hx9=>?_)
 obtain ⟨H1,I1,q1⟩:=hx9
 cases d with
 | true=>exact ha pins s1 σ H1 Q I1 q1
 | false=>exact hb pins s1 σ H1 Q I1 q1
end
def SqL (K:PySem.W.Frag) (H:Hp) (a:Addr) (xs:List V):Prop :=
 Rd H a (.lst xs) ∨
  ∃ (o:Obj) (its:Array Value) (n:Nat),K.lookup a=some o/\o.cls=.type "list" /\ o.dict=none/\o.data=.seq its n/\its.size<=sizeLine/\aZ xs its.toList
def SqT (K:PySem.W.Frag) (H:Hp) (a:Addr) (xs:List V):Prop :=
 Rd H a (.tup xs) ∨
  ∃ (o:Obj) (its:Array Value) (n:Nat),K.lookup a=some o/\o.cls=.type "tuple" /\ o.dict=none/\o.data=.seq its n/\its.size<=sizeLine/\aZ xs its.toList
def aFF:Value->Option V
 | .none=>some .non
 | .bool b=>some (.bl b)
 | .int i _=>some (.int i)
 | .str x _=>some (.str x)
 | .bytes b _=>some (.byt b)
 | .float b _=>some (.flt b)
 | .ref a=>some (.ref a)
 | .type n=>some (.ty n)
 | _=>none
theorem bJ.abs {x:V} {u:Value} (r:bJ x u):aFF u=some x:=by
 cases x with
 | non=>cases r; rfl
 | bl _=>cases r; rfl
 | int _=>obtain ⟨t,rfl⟩:=r; rfl
 | str _=>obtain ⟨t,rfl⟩:=r; rfl
 | byt _=>obtain ⟨t,rfl⟩:=r; rfl
 | flt _=>obtain ⟨t,rfl⟩:=r; rfl
 | ref _=>cases r; rfl
 | ty _=>cases r; rfl
theorem bJ.inj {x y:V} {u:Value} (r:bJ x u) (q:bJ y u):x=y:=Option.some.inj (r.abs.symm.trans q.abs)
theorem aZ.inj:∀ {xs ys:List V} {us:List Value},aZ xs us->aZ ys us->xs=ys
 := by
 intro xs ys us h
 induction h generalizing ys with
 | nil=>intro q; cases q; rfl
 | cons r t ih=>intro q; cases q with | cons r' t'=>rw [r.inj r',ih t']
section
variable {X:Cx} {pins:List (Addr×Obj)} {σ:St} {H:Hp} {s:Shared} {a:Addr} {xs ys:List V}
theorem SqL.of {K:PySem.W.Frag} (h:H a=some (.lst xs)):SqL K H a xs:=.inl (.inl h)
theorem SqT.of {K:PySem.W.Frag} (h:H a=some (.tup xs)):SqT K H a xs:=.inl (.inl h)
theorem Inv.list (I:Inv X pins σ H s) (h:SqL X.K H a xs):∃ its:List Value,aZ xs its/\PlainL s.heap a its.toArray/\xs.length<=sizeLine:=by
 rcases h with h | ⟨o,its,n,hk,hc,hd,hs,hz,r⟩
 ·obtain ⟨z,its,n,r,e⟩:=h.ok I.hok
  exact ⟨its,r,⟨_,n,e,rfl,rfl,rfl⟩,z⟩
 ·refine ⟨its.toList,r,⟨o,n,I.kIn a o hk,hc,hd,by simpa using hs⟩,?_⟩
  have e:=r.length
  simp only [Array.length_toList] at e
  omega
theorem Inv.tuple (I:Inv X pins σ H s) (h:SqT X.K H a xs):∃ its:List Value,aZ xs its/\IsTup s.heap a its.toArray/\xs.length<=sizeLine:=by
 rcases h with h | ⟨o,its,n,hk,hc,_,hs,hz,r⟩
 ·obtain ⟨z,its,n,r,p⟩:=h.ok I.hok
  exact ⟨its,r,⟨_,p,rfl,n,rfl⟩,z⟩
 ·refine ⟨its.toList,r,⟨o,I.kIn a o hk,hc,n,by simpa using hs⟩,?_⟩
  have e:=r.length
  simp only [Array.length_toList] at e
  omega
theorem Inv.list_inj (I:Inv X pins σ H s) (h:SqL X.K H a xs) (h':SqL X.K H a ys):xs=ys:=by
 obtain ⟨its,r,⟨o,n,e,_,_,d⟩,_⟩:=I.list h
 obtain ⟨its',r',⟨o',n',e',_,_,d'⟩,_⟩:=I.list h'
 rw [e] at e'; cases e'
 rw [d] at d'
 injection d' with d1 _
 have:its=its':=by simpa using congrArg Array.toList d1
 subst this
 exact r.inj r'
theorem Inv.tuple_inj (I:Inv X pins σ H s) (h:SqT X.K H a xs) (h':SqT X.K H a ys):xs=ys:=by
 obtain ⟨its,r,⟨o,e,_,n,d⟩,_⟩:=I.tuple h
 obtain ⟨its',r',⟨o',e',_,n',d'⟩,_⟩:=I.tuple h'
 rw [e] at e'; cases e'
 rw [d] at d'
 injection d' with d1 _
 have:its=its':=by simpa using congrArg Array.toList d1
 subst this
 exact r.inj r'
end
abbrev Cx.wish (X:Cx) (E:Value->Shared->Prop):Cx:={ X with xe:=E }
abbrev Cx.nox (X:Cx):Cx:=X.wish fun _ _=>False
theorem Cx.Ok.wish {X:Cx} (ok:X.Ok) (E:Value->Shared->Prop):(X.wish E).Ok :=
 ⟨ok.mod,ok.kind,ok.glob,ok.blt,ok.above,ok.inj,ok.has,ok.cab,ok.hd,ok.frames,ok.stk,ok.exf,ok.bs,ok.bsz,ok.noex,ok.exfs,ok.funs,ok.frf⟩
theorem Cx.Ok.unwish {X:Cx} {E:Value->Shared->Prop} (ok:(X.wish E).Ok):X.Ok :=
 ⟨ok.mod,ok.kind,ok.glob,ok.blt,ok.above,ok.inj,ok.has,ok.cab,ok.hd,ok.frames,ok.stk,ok.exf,ok.bs,ok.bsz,ok.noex,ok.exfs,ok.funs,ok.frf⟩
section
variable {X:Cx} {pins:List (Addr×Obj)} {σ:St} {H:Hp} {s:Shared} {E:Value->Shared->Prop}
theorem Inv.wish (I:Inv X pins σ H s) (E:Value->Shared->Prop):Inv (X.wish E) pins σ H s:=⟨I.ok.wish E,I.os,I.bare,I.base,I.loc,I.cell,I.free,I.freeC,I.pin,I.hok,I.len⟩
theorem Inv.unwish (I:Inv (X.wish E) pins σ H s):Inv X pins σ H s:=⟨I.ok.unwish,I.os,I.bare,I.base,I.loc,I.cell,I.free,I.freeC,I.pin,I.hok,I.len⟩
theorem SP.unwish {D:Ends} {f:Flow} {s':Shared} (h:SP (X.wish E) pins D f s'):SP X pins D f s':=by
 cases f with
 | next=>obtain ⟨σ',H',I,q⟩:=h; exact ⟨σ',H',I.unwish,q⟩
 | brk=>obtain ⟨σ',H',I,q⟩:=h; exact ⟨σ',H',I.unwish,q⟩
 | cont=>obtain ⟨σ',H',I,q⟩:=h; exact ⟨σ',H',I.unwish,q⟩
 | ret u=>obtain ⟨v,σ',H',I,r,q⟩:=h; exact ⟨v,σ',H',I.unwish,r,q⟩
theorem PE.nox {e:Expr} {t:TE} (h:PE X.nox e t):PE X e t:=fun pins s σ H Q I hw =>
 wpAny_mono (h pins s σ H Q (I.wish _) hw) (fun _ _ ⟨v,H',I',r,q⟩=>⟨v,H',I'.unwish,r,q⟩) fun _ _ z=>False.elim z
theorem PT.nox {e:Expr} {t:TT} (h:PT X.nox e t):PT X e t:=fun pins s σ H Q I hw =>
 wpAny_mono (h pins s σ H Q (I.wish _) hw) (fun _ _ ⟨H',I',q⟩=>⟨H',I'.unwish,q⟩) fun _ _ z=>False.elim z
theorem PSs.nox {st:List Stmt} {t:TS} (h:PSs X.nox st t):PSs X st t:=fun pins s σ H D I hw =>
 wpAny_mono (h pins s σ H D (I.wish _) hw) (fun _ _ q=>q.unwish) fun _ _ z=>False.elim z
end
section
variable {X:Cx} {st:Stmt} {rest:List Stmt} {t u:TS} {e:Expr} {te:TE} {pos:Pos}
def aEY:TS:=fun D σ H=>D.nx σ H
def uW (t u:TS):TS:=fun D σ H=>t { D with nx:=u D } σ H
theorem bH:PSs X [] aEY:=fun _ _ σ H _ I h=>wpAny_execs_nil ⟨σ,H,I,h⟩
theorem aG (h1:PS X st t) (h2:PSs X rest u):PSs X (st::rest) (uW t u):=by
 intro pins s σ H D I h
 refine wpAny_execs_cons (thn (h1 pins s σ H { D with nx:=u D } I h) fun f s1 q=>?_)
 cases f with
 | next =>
  obtain ⟨σ',H',I',q⟩:=q
  exact h2 pins s1 σ' H' D I' q
 | ret v=>exact q
 | brk=>exact q
 | cont=>exact q
theorem aL (h1:PS X st t):PSs X [st] t:=by
 intro pins s σ H D I h
 refine wpAny_execs_cons (thn (h1 pins s σ H D I h) fun f s1 q=>?_)
 cases f with
 | next=>exact wpAny_execs_nil q
 | ret v=>exact q
 | brk=>exact q
 | cont=>exact q
def aD4:TS:=fun D σ H=>D.bk σ H
theorem uX:PS X (.Break pos) aD4:=fun _ _ σ H _ I h=>wpAny_Break ⟨σ,H,I,h⟩
theorem Inv.quiet {pins:List (Addr×Obj)} {σ:St} {H:Hp} {s:Shared} (I:Inv X pins σ H s):interactive X.env=false:=by simp [interactive,I.ok.kind]
def aEZ (te:TE):TS:=fun D σ H=>te σ H fun _ H1=>D.nx σ H1
theorem bV (he:PE X e te) (hs:swapsWith e none pos.line X.env=pure false:=by rfl):PS X (.Expr e pos) (aEZ te):=by
 intro pins s σ H D I h
 refine wpAny_Expr_any (thn (he pins s σ H _ I h) fun v s1 hx9=>?_) I.quiet hs
 obtain ⟨x,H1,I1,r1,q1⟩:=hx9
 exact ⟨σ,H1,I1,q1⟩
def aCH (te:TE):TS:=fun D σ H=>te σ H D.rt
theorem bA (he:PE X e te):PS X (.Return (some e) pos) (aCH te):=by
 intro pins s σ H D I h
 refine wpAny_Return_some (thn (he pins s σ H _ I h) fun v s1 hx9=>?_)
 obtain ⟨x,H1,I1,r1,q1⟩:=hx9
 exact ⟨x,σ,H1,I1,r1,q1⟩
def aFG (c:TT) (t u:TS):TS:=fun D σ H=>c σ H fun b H1=>if b=true then t D σ H1 else u D σ H1
theorem bW {c:Expr} {a b:List Stmt} {tc:TT} (hc:PT X c tc) (ha:PSs X a t) (hb:PSs X b u):PS X (.If c a b pos) (aFG tc t u):=by
 intro pins s σ H D I h
 refine wpAny_If (thn (hc pins s σ H _ I h) fun d s1 hx9=>?_)
 obtain ⟨H1,I1,q1⟩:=hx9
 cases d with
 | true=>exact ha pins s1 σ H1 D I1 q1
 | false=>exact hb pins s1 σ H1 D I1 q1
def aD5:TS:=fun _ _ _=>False
theorem fX {sts:List Stmt}:PSs X sts aD5:=fun _ _ _ _ _ _ h=>h.elim
end
abbrev TG:=V->St->Hp->(St->Hp->Prop)->Prop
abbrev TGs:=List V->St->Hp->(St->Hp->Prop)->Prop
def PG (X:Cx) (target:Expr) (t:TG):Prop :=
 ∀ (pins:List (Addr×Obj)) (s:Shared) (σ:St) (H:Hp) (v:V) (u:Value) (Q:St->Hp->Prop),Inv X pins σ H s->bJ v u->t v σ H Q ->
  wpAny (model X.prog X.w) X.A (assign target X.env u) (fun _ s'=>∃ σ' H',Inv X pins σ' H' s'/\Q σ' H') X.xe s
def PGs (X:Cx) (ts:List Expr) (t:TGs):Prop :=
 ∀ (pins:List (Addr×Obj)) (s:Shared) (σ:St) (H:Hp) (vs:List V) (us:List Value) (Q:St->Hp->Prop),Inv X pins σ H s->aZ vs us->t vs σ H Q ->
  wpAny (model X.prog X.w) X.A (assignInOrder ((assignEach ts X.env).map (·.2)) us) (fun _ s'=>∃ σ' H',Inv X pins σ' H' s'/\Q σ' H') X.xe s
abbrev aBe:=V->V->V->Hp->(Hp->Prop)->Prop
def aD6 (X:Cx) (t:aBe):Prop :=
 ∀ (pins:List (Addr×Obj)) (s:Shared) (σ:St) (H:Hp) (o i v:V) (ov iv u:Value) (Q:Hp->Prop),Inv X pins σ H s->bJ o ov->bJ i iv->bJ v u->t o i v H Q ->
  wpAny (model X.prog X.w) X.A (setItem ov iv u) (fun _ s'=>∃ H',Inv X pins σ H' s'/\Q H') X.xe s
abbrev TIp:=V->V->Hp->VK->Prop
def PIp (X:Cx) (op:Operator) (t:TIp):Prop :=
 ∀ (pins:List (Addr×Obj)) (s:Shared) (σ:St) (H:Hp) (x y:V) (v u:Value) (Q:VK),Inv X pins σ H s->bJ x v->bJ y u->t x y H Q ->
  wpAny (model X.prog X.w) X.A (inplaceOp op v u) (EP X pins σ Q) X.xe s
section
variable {X:Cx} {pos:Pos}
def fU (i:Nat):TG:=fun v σ H Q=>Q (σ.set i (some v)) H
theorem aS {i:Nat} {x:Str} (hN:X.N.Nodup) (hi:X.N[i]?=some x) (hx:Loc X.env.scope x) (hf:X.fn x=true∨X.env.scope.names.lookup x=some .local:=by first | exact .inl rfl | exact .inr rfl | assumption):PG X (.Name x pos) (fU i):=by
 intro pins s σ H v u Q I r h
 exact wpAny_assign_Name (uV I hN hi hx r (fun s' I'=>⟨_,H,I',h⟩) hf)
def aFH:TGs:=fun vs σ H Q=>vs = []/\Q σ H
def aE0 (t:TG) (u:TGs):TGs:=fun vs σ H Q=>∃ v r,vs=v::r/\t v σ H fun σ' H'=>u r σ' H' Q
theorem hG:PGs X [] aFH:=by
 intro pins s σ H vs us Q I r h
 obtain ⟨e,h⟩:=h
 subst e
 cases r
 exact assignInOrder_nil ⟨σ,H,I,h⟩
theorem bX {e:Expr} {es:List Expr} {t:TG} {u:TGs} (h1:PG X e t) (h2:PGs X es u)
  (hs:(assignEach (e::es) X.env).map (·.2)=assign e X.env::(assignEach es X.env).map (·.2):=by rfl):PGs X (e::es) (aE0 t u):=by
 intro pins s σ H vs us Q I r h
 obtain ⟨v,vr,e1,h⟩:=h
 subst e1
 cases r with
 | cons r rr =>
  rw [hs]
  refine assignInOrder_cons (thn (h1 pins s σ H _ _ _ I r h) fun _ s1 hx9=>?_)
  obtain ⟨σ1,H1,I1,q1⟩:=hx9
  exact h2 pins s1 σ1 H1 _ _ Q I1 rr q1
def aE1 (K:PySem.W.Frag) (n:Nat) (t:TGs):TG:=fun v σ H Q=>∃ a xs,v=.ref a/\SqT K H a xs/\xs.length=n/\t xs σ H Q
theorem jN {es:List Expr} {k:Nat} {t:TGs} {n:Nat} (hc:X.calm=true) (h:PGs X es t)
  (hn:(assignEach es X.env).length=n:=by rfl) (hst:(assignEach es X.env).findIdx? (·.1)=none:=by rfl):PG X (.Tuple es k pos) (aE1 X.K n t):=by
 intro pins s σ H v u Q I r hw
 obtain ⟨a,xs,e1,hq,hl,hw⟩:=hw
 subst e1
 cases r
 obtain ⟨its,rv,ht,hz⟩:=I.tuple hq
 refine assign_Tuple_tuple (I.ok.hd hc) ht (by simp [hn,<- hl,rv.length]) hst fun h' hx=>?_
 have I1:Inv X pins σ H { s with heap:=h' }:=I.kept (t':=s.toks) fun b o e=>hx b o (Qt (Ql e)) e
 exact h pins _ σ H xs _ Q I1 (by simpa using rv) hw
def aFI (to ti:TE) (t:aBe):TG:=fun v σ H Q=>to σ H fun o H1=>ti σ H1 fun i H2=>t o i v H2 fun H3=>Q σ H3
theorem tF {o i:Expr} {to ti:TE} {t:aBe} (ho:PE X o to) (hi:PE X i ti) (hs:aD6 X t)
  (ha:∀ v,assign (.Subscript o i pos) X.env v=(do
   let ov<-holding [v] (eval o X.env)
   let iv<-holding [v,ov] (eval i X.env)
   standAt pos
   holding [v,ov,iv] (setItem ov iv v)
   release [v,ov,iv] []):=by intro _; rfl):PG X (.Subscript o i pos) (aFI to ti t):=by
 intro pins s σ H v u Q I r h
 rw [ha]
 refine wpAny_bind (wpAny_holding (thn (ho pins s σ H _ I h) fun ov s1 hx9=>?_))
 obtain ⟨x,H1,I1,r1,q1⟩:=hx9
 refine wpAny_bind (wpAny_holding (thn (hi pins s1 σ H1 _ I1 q1) fun iv s2 hx9=>?_))
 obtain ⟨y,H2,I2,r2,q2⟩:=hx9
 refine wpAny_bind (wpAny_standAt (wpAny_bind (wpAny_holding (thn (hs pins s2 σ H2 x y v ov iv u _ I2 r1 r2 r q2) fun _ s3 hx9=>?_))))
 obtain ⟨H3,I3,q3⟩:=hx9
 exact wpAny_release ⟨σ,H3,I3,q3⟩
def lB (te:TE) (g:TG):TS:=fun D σ H=>te σ H fun x H1=>g x σ H1 D.nx
theorem lL {tg e:Expr} {te:TE} {g:TG} (he:PE X e te) (hg:PG X tg g) (hs:swapsWithSole [tg] e pos.line X.env=pure false:=by rfl) (hw:swappedStores [tg] e X.env=pure none:=by rfl)
  (h1:(assignEach [tg] X.env).map (·.2) = [assign tg X.env]:=by rfl):PS X (.Assign [tg] e pos) (lB te g):=by
 intro pins s σ H D I h
 refine wpAny_Assign_stores (thn (he pins s σ H _ I h) fun v s1 hx9=>?_) hs hw
 obtain ⟨x,H1,I1,r1,q1⟩:=hx9
 rw [h1]
 exact thn (hg pins s1 σ H1 x v _ I1 r1 q1) fun _ s2 q=>q
theorem aX {i:Nat} {x:Str} {e:Expr} {te:TE} {pos':Pos} (hN:X.N.Nodup) (hi:X.N[i]?=some x) (hx:Loc X.env.scope x) (he:PE X e te) (hs:swapsWith e (some (.Name x pos')) pos.line X.env=pure false:=by rfl) (hf:X.fn x=true∨X.env.scope.names.lookup x=some .local:=by first | exact .inl rfl | exact .inr rfl | assumption) :
  PS X (.Assign [.Name x pos'] e pos) (lB te (fU i)):=by
 intro pins s σ H D I h
 refine wpAny_Assign_Name (thn (he pins s σ H _ I h) fun v s1 hx9=>?_) hs
 obtain ⟨y,H1,I1,r1,q1⟩:=hx9
 exact uV I1 hN hi hx r1 (fun s2 I2=>⟨_,H1,I2,q1⟩) hf
def aE2 (to ti te:TE) (tget:V->V->Hp->VK->Prop) (tip:TIp) (tset:aBe):TS:=fun D σ H=>to σ H fun o H1=>ti σ H1 fun i H2=>tget o i H2 fun x H3=>te σ H3 fun y H4=>tip x y H4 fun z H5=>tset o i z H5 fun H6=>D.nx σ H6
def aE3 (X:Cx) (t:V->V->Hp->VK->Prop):Prop :=
 ∀ (pins:List (Addr×Obj)) (s:Shared) (σ:St) (H:Hp) (o i:V) (ov iv:Value) (Q:VK),Inv X pins σ H s->bJ o ov->bJ i iv->t o i H Q ->
  wpAny (model X.prog X.w) X.A (getItem ov iv) (EP X pins σ Q) X.xe s
theorem aCI {o i e:Expr} {to ti te:TE} {tget:V->V->Hp->VK->Prop} {tip:TIp} {tset:aBe} {op:Operator} {tpos:Pos} (ho:PE X o to) (hi:PE X i ti) (hg:aE3 X tget) (he:PE X e te) (hp:PIp X op tip) (hs:aD6 X tset)
  (ha:∀ ov iv new,augStore i ov iv new=(do holding [new,ov,iv] (setItem ov iv new); release [new,ov,iv] []; pure .next):=by intros; rfl):PS X (.AugAssign (.Subscript o i tpos) op e pos) (aE2 to ti te tget tip tset):=by
 intro pins s σ H D I h
 refine wpAny_AugAssign_SubscriptAny (thn (ho pins s σ H _ I h) fun ov s1 hx9=>?_) ha
 obtain ⟨x1,H1,I1,r1,q1⟩:=hx9
 refine thn (hi pins s1 σ H1 _ I1 q1) fun iv s2 hx9=>?_
 obtain ⟨x2,H2,I2,r2,q2⟩:=hx9
 refine thn (hg pins s2 σ H2 x1 x2 ov iv _ I2 r1 r2 q2) fun old s3 hx9=>?_
 obtain ⟨x3,H3,I3,r3,q3⟩:=hx9
 refine thn (he pins s3 σ H3 _ I3 q3) fun v s4 hx9=>?_
 obtain ⟨x4,H4,I4,r4,q4⟩:=hx9
 refine thn (hp pins s4 σ H4 x3 x4 old v _ I4 r3 r4 q4) fun new s5 hx9=>?_
 obtain ⟨x5,H5,I5,r5,q5⟩:=hx9
 refine thn (hs pins s5 σ H5 x1 x2 x5 ov iv new _ I5 r1 r2 r5 q5) fun _ s6 hx9=>?_
 obtain ⟨H6,I6,q6⟩:=hx9
 exact ⟨σ,H6,I6,q6⟩
def ipI (f:Int->Int->Int):TIp:=fun x y H Q=>∃ i j,x=.int i/\y=.int j/\Q (.int (f i j)) H
theorem aD7:PIp X .Add (ipI fun i j=>i+j):=by
 intro pins s σ H x y v u Q I r1 r2 h
 obtain ⟨i,j,e1,e2,q⟩:=h
 subst e1; subst e2
 obtain ⟨t,rfl⟩:=r1
 obtain ⟨t',rfl⟩:=r2
 exact iadd_int ⟨.int _,H,I.tok _,⟨_,rfl⟩,q⟩
def aD8 (c:TT) (tb:TS):TS:=fun D σ H=>∃ W:Nat->St->Hp->Prop,(∃ m,W m σ H)/\∀ m σ H,W m σ H ->
 c σ H fun b H1=>if b=true then ∃ N:St->Hp->Prop,(∀ σ' H',N σ' H'->∃ m',m' < m/\W m' σ' H')/\tb { D with nx:=N,ct:=N,bk:=D.nx } σ H1 else D.nx σ H1
theorem oR {c:Expr} {body:List Stmt} {tc:TT} {tb:TS} (hp:PassesOwn (model X.prog X.w) X.A X.env X.xe) (hc:PT X c tc) (hb:PSs X body tb):PS X (.While c body [] pos) (aD8 tc tb):=by
 intro pins s σ H D I h
 obtain ⟨W,⟨m0,w0⟩,turn⟩:=h
 refine wpAny_While (codeAny_whileLoop (fun n s'=>∃ σ' H',Inv X pins σ' H' s'/\W n σ' H') ?_ m0 ⟨σ,H,I,w0⟩)
 rintro n s1 ⟨σ1,H1,I1,w1⟩
 refine wpAny_passesOwn hp (thn (hc pins s1 σ1 H1 _ I1 (turn n σ1 H1 w1)) fun b s2 hx9=>?_)
 obtain ⟨H2,I2,q2⟩:=hx9
 cases b with
 | true =>
  obtain ⟨N,hN,q2⟩:=q2
  rw [if_pos rfl]
  refine wpAny_passesOwn hp (thn (hb pins s2 σ1 H2 _ I2 q2) fun f s3 q3=>?_)
  cases f with
  | next =>
   obtain ⟨σ3,H3,I3,n3⟩:=q3
   obtain ⟨m',hm,w3⟩:=hN σ3 H3 n3
   exact ⟨m',hm,σ3,H3,I3,w3⟩
  | cont =>
   obtain ⟨σ3,H3,I3,n3⟩:=q3
   obtain ⟨m',hm,w3⟩:=hN σ3 H3 n3
   exact ⟨m',hm,σ3,H3,I3,w3⟩
  | brk=>exact q3
  | ret v=>exact q3
 | false =>
  rw [if_neg Qq]
  exact wpAny_execs_nil ⟨σ1,H2,I2,q2⟩
end
structure It where
 go:Nat->Hp->Prop
 yld:Nat->Hp->V->Hp->Prop
 stop:Nat->Hp->Prop
def oS (X:Cx) (pins:List (Addr×Obj)) (H:Hp) (b:Addr):Prop :=
 H b=none/\b≠X.env.locals/\b∉X.fs/\(b∈X.ex∨X.s₀.heap.objs.size<=b)/\(∀ x c,X.env.cells.lookup x=some c->c≠b)/\∀ p∈X.pn++pins,p.1≠b
theorem Inv.fpOk {X:Cx} {pins:List (Addr×Obj)} {σ:St} {H H':Hp} {s:Shared} {b:Addr} (I:Inv X pins σ H s) (hb:s.heap.objs.size<=b) (hn:H' b=none):oS X pins H' b:=by
 refine ⟨hn,Jv (Qp I.lt hb),I.nofs hb,.inr (Qx I.sz hb),fun x c e z=>?_,fun p hp z=>?_⟩
 ·obtain ⟨v,q⟩:=I.cell x c e
  exact absurd (Qp q.lt (by rw [z]; exact hb)) (Jb _)
 ·exact absurd (Qp (Ql (I.pin p hp).1) (by rw [z]; exact hb)) (Jb _)
structure Turn (P:Program) (w:World) (K:PySem.W.Frag) (tg:Expr) (J:It) (fp:List Addr) (it:Addr) (tn:Nat->Heap->Prop):Prop where
 mem:it∈fp
 obj:∀ i h,tn i h->∀ b∈fp,∃ o,h.get? b=some o/\∀ v,o.data≠.cell v
 keep:∀ i h h',tn i h->(∀ b∈fp,∀ o,h.get? b=some o->h'.get? b=some o)->tn i h'
 item:∀ (X:Cx),X.prog=P->X.w=w->X.K=K->X.calm=true->∀ (i:Nat) (pins:List (Addr×Obj)) (s:Shared) (σ:St) (H:Hp) (E:Value->Shared->Prop),Inv X pins σ H s->(∀ b∈fp,oS X pins H b)->tn i s.heap->J.go i H ->
  wpAny (model P w) X.A (pyNext (.ref it)) (fun r s1=>∃ u,r=some u /\
   wpAny (model P w) X.A (letOwnedTupleGo tg (.ref it) u) (fun _ s2=>∃ x H',Inv X pins σ H' s2/\bJ x u/\J.yld i H x H'/\tn (i+1) s2.heap/\∀ b∈fp,H' b=none) E s1) E s
 done:∀ (X:Cx),X.prog=P->X.w=w->X.K=K->X.calm=true->∀ (i:Nat) (pins:List (Addr×Obj)) (s:Shared) (σ:St) (H:Hp) (E:Value->Shared->Prop),Inv X pins σ H s->(∀ b∈fp,oS X pins H b)->tn i s.heap->J.stop i H ->
  wpAny (model P w) X.A (pyNext (.ref it)) (fun r s1=>r=none/\Inv X pins σ H s1) E s
 self:∀ (A:Around) (i:Nat) (s:Shared) (Q:Value->Shared->Prop) (E:Value->Shared->Prop),tn i s.heap->Q (.ref it) s->wpAny (model P w) A (pyIter (.ref it)) Q E s
abbrev TI:=St->Hp->(It->Hp->Prop)->Prop
def PIE (X:Cx) (pins:List (Addr×Obj)) (σ:St) (tg:Expr) (R:It->Hp->Prop) (itv:Value) (s2:Shared):Prop :=
 ∃ (it:Addr) (fp:List Addr) (tn:Nat->Heap->Prop) (J:It) (H':Hp),itv=.ref it/\Inv X pins σ H' s2/\Turn X.prog X.w X.K tg J fp it tn/\tn 0 s2.heap/\(∀ b∈fp,oS X pins H' b)/\R J H'
def PI (X:Cx) (tg iter:Expr) (wi:TI):Prop :=
 ∀ (pins:List (Addr×Obj)) (s:Shared) (σ:St) (H:Hp) (R:It->Hp->Prop),Inv X pins σ H s->wi σ H R ->
  wpAny (model X.prog X.w) X.A (eval iter X.env) (fun v s1=>wpAny (model X.prog X.w) X.A (pyIter v) (PIE X pins σ tg R) X.xe s1) X.xe s
theorem yZ {M:Model} {A:Around} {E:Value->Shared->Prop} {s:Shared} {tg:Expr} {it:Addr} {u:Value} {o:Obj} {n:String} {vs:Array Value} {Q:Unit->Shared->Prop} (ho:s.heap.get? it=some o) (hc:o.cls=.type n) (hd:o.data=.fields vs)
  (hn : ["enumerate", "zip", "dict_itemiterator", "dict_reverseitemiterator", "odict_iterator", "itertools.zip_longest", "itertools.pairwise"].contains n=false) (hQ:Q () s):wpAny M A (letOwnedTupleGo tg (.ref it) u) Q E s:=by
 unfold letOwnedTupleGo
 cases tg <;> first
  | exact wpAny_pure hQ
  | (cases u <;> first
    | exact wpAny_pure hQ
    | (refine wpAny_bind (wpAny_load ho ?_)
       rw [hc,hd]
       show wpAny M A (if (["enumerate", "zip", "dict_itemiterator", "dict_reverseitemiterator", "odict_iterator", "itertools.zip_longest", "itertools.pairwise"].contains n && vs[0]?==some (rawInt _))=true then _ else _) Q E s
       rw [if_neg (by intro h; rw [hn,Xw] at h; cases h)]
       exact wpAny_pure hQ))
def Itl (K:PySem.W.Frag) (a:Addr):It :=
 ⟨fun i H=>∃ xs x,SqL K H a xs/\xs[i]?=some x,fun i H x H'=>H'=H/\∀ xs,SqL K H a xs->xs[i]?=some x,fun i H=>∃ xs,SqL K H a xs/\xs.length<=i⟩
def Itt (K:PySem.W.Frag) (a:Addr):It :=
 ⟨fun i H=>∃ xs x,SqT K H a xs/\xs[i]?=some x,fun i H x H'=>H'=H/\∀ xs,SqT K H a xs->xs[i]?=some x,fun i H=>∃ xs,SqT K H a xs/\xs.length<=i⟩
def Itr (lo:Int) (n:Nat):It:=⟨fun i _=>i < n,fun i H x H'=>H'=H/\x=.int (lo+i),fun i _=>n<=i⟩
theorem aAy {P:Program} {w:World} {K:PySem.W.Frag} {tg:Expr} (a it:Addr):Turn P w K tg (Itl K a) [it] it (fun i h=>h.IsListIter it a i) where
 mem:=by simp
 obj:=fun i h st b hb=>by
  have e:b=it:=by simpa using hb
  subst e
  obtain ⟨o,e,c,d⟩:=st
  exact ⟨o,e,fun v z=>by rw [d] at z; cases z⟩
 keep:=fun i h h' st k=>st.at fun o e=>k it (by simp) o e
 item:=by
  intro X hP hw hK hc i pins s σ H E I hf st hg
  subst hP hw hK
  obtain ⟨xs,x,hq,hx⟩:=hg
  obtain ⟨its,rv,p,hz⟩:=I.list hq
  obtain ⟨u,hu,ru⟩:=rv.get hx
  obtain ⟨f0,f1,f2,f3,f4,f5⟩:=hf it (by simp)
  refine wpAny_pyNext_list_item st p.isList (x:=u) (by simpa using hu) fun h' st' sb=>?_
  have I1:Inv X pins σ H { s with heap:=h' }:=I.turned (t':=s.toks) (fun b o hb e=>(sb.2 b hb).trans e) f0 f1 f3 f4 f5
  obtain ⟨o,e,c,d⟩:=id st'
  exact ⟨u,rfl,yZ (s:={ s with heap:=h' }) e c d (by decide) ⟨x,H,I1,ru,⟨rfl,fun ys hy=>by rw [I.list_inj hy hq]; exact hx⟩,st',fun b hb=>(hf b hb).1⟩⟩
 done:=by
  intro X hP hw hK hc i pins s σ H E I hf st hg
  subst hP hw hK
  obtain ⟨xs,hq,hx⟩:=hg
  obtain ⟨its,rv,p,hz⟩:=I.list hq
  obtain ⟨f0,f1,f2,f3,f4,f5⟩:=hf it (by simp)
  have hl:=rv.length
  exact wpAny_pyNext_list_end (I.ok.hd hc) st p.isList (by simp; omega) fun h' eb=>⟨rfl,I.turned (t':=s.toks) (fun b o hb e=>eb b o hb e) f0 f1 f3 f4 f5⟩
 self:=fun _ _ _ _ _ st h=>wpAny_pyIter_listiter st h
theorem xJ {P:Program} {w:World} {K:PySem.W.Frag} {tg:Expr} (a it:Addr):Turn P w K tg (Itt K a) [it] it (fun i h=>h.IsTupleIter it a i) where
 mem:=by simp
 obj:=fun i h st b hb=>by
  have e:b=it:=by simpa using hb
  subst e
  obtain ⟨o,e,c,d⟩:=st
  exact ⟨o,e,fun v z=>by rw [d] at z; cases z⟩
 keep:=fun i h h' st k=>st.at fun o e=>k it (by simp) o e
 item:=by
  intro X hP hw hK hc i pins s σ H E I hf st hg
  subst hP hw hK
  obtain ⟨xs,x,hq,hx⟩:=hg
  obtain ⟨its,rv,p,hz⟩:=I.tuple hq
  obtain ⟨u,hu,ru⟩:=rv.get hx
  obtain ⟨f0,f1,f2,f3,f4,f5⟩:=hf it (by simp)
  refine wpAny_pyNext_tuple_item st (show s.heap.IsTuple a its.toArray from p) (x:=u) (by simpa using hu) fun h' st' sb=>?_
  have I1:Inv X pins σ H { s with heap:=h' }:=I.turned (t':=s.toks) (fun b o hb e=>(sb.2 b hb).trans e) f0 f1 f3 f4 f5
  obtain ⟨o,e,c,d⟩:=id st'
  exact ⟨u,rfl,yZ (s:={ s with heap:=h' }) e c d (by decide) ⟨x,H,I1,ru,⟨rfl,fun ys hy=>by rw [I.tuple_inj hy hq]; exact hx⟩,st',fun b hb=>(hf b hb).1⟩⟩
 done:=by
  intro X hP hw hK hc i pins s σ H E I hf st hg
  subst hP hw hK
  obtain ⟨xs,hq,hx⟩:=hg
  obtain ⟨its,rv,p,hz⟩:=I.tuple hq
  obtain ⟨f0,f1,f2,f3,f4,f5⟩:=hf it (by simp)
  have hl:=rv.length
  exact wpAny_pyNext_tuple_end (I.ok.hd hc) st (show s.heap.IsTuple a its.toArray from p) (by simp; omega) fun h' eb=>⟨rfl,I.turned (t':=s.toks) (fun b o hb e=>eb b o hb e) f0 f1 f3 f4 f5⟩
 self:=fun _ _ _ _ _ st h=>wpAny_pyIter_tupleiter st h
theorem xK {P:Program} {w:World} {K:PySem.W.Frag} {tg:Expr} (it:Addr) (lo:Int) (n:Nat):Turn P w K tg (Itr lo n) [it] it (fun i h=>IsRangeIter h it (lo+(i:Nat)*1) ((n:Int) - (i:Nat)) 1) where
 mem:=by simp
 obj:=fun i h st b hb=>by
  have e:b=it:=by simpa using hb
  subst e
  exact ⟨_,st,fun v z=>by
   have z':Data.fields _=Data.cell v:=z
   cases z'⟩
 keep:=fun i h h' st k=>k it (by simp) _ st
 item:=by
  intro X hP hw hK hc i pins s σ H E I hf st hg
  subst hP hw hK
  obtain ⟨f0,f1,f2,f3,f4,f5⟩:=hf it (by simp)
  have W:=Walks.range (prog:=X.prog) (w:=X.w) (I.ok.hd hc) it lo 1 n
  refine W.item i s _ _ hg st fun v h' tk hv st' kk=>?_
  obtain ⟨t,rfl⟩:=hv
  have I1:Inv X pins σ H { s with heap:=h',toks:=tk }:=I.turned (fun b o hb e=>kk b o (by simpa using hb) e) f0 f1 f3 f4 f5
  refine ⟨_,rfl,yZ (s:={ s with heap:=h',toks:=tk }) (n := "range_iterator") st' rfl rfl (by decide) ⟨.int (lo+i),H,I1,⟨t,?_⟩,⟨rfl,rfl⟩,st',fun b hb=>(hf b hb).1⟩⟩
  rw [Int.mul_one]
 done:=by
  intro X hP hw hK hc i pins s σ H E I hf st hg
  subst hP hw hK
  obtain ⟨f0,f1,f2,f3,f4,f5⟩:=hf it (by simp)
  exact wpAny_pyNext_range_end (I.ok.hd hc) st (by have:n<=i:=hg; omega) fun h' eb=>⟨rfl,I.turned (t':=s.toks) (fun b o hb e=>eb b o hb e) f0 f1 f3 f4 f5⟩
 self:=fun _ _ _ _ _ st h=>wpAny_pyIter_rangeiter st h
section
variable {X:Cx} {tg:Expr}
def aDK (K:PySem.W.Frag) (tl:TE):TI:=fun σ H R=>tl σ H fun x H1=>∃ a,x=.ref a/\(∃ xs,SqL K H1 a xs)/\R (Itl K a) H1
def aFJ (K:PySem.W.Frag) (tl:TE):TI:=fun σ H R=>tl σ H fun x H1=>∃ a,x=.ref a/\(∃ xs,SqT K H1 a xs)/\R (Itt K a) H1
theorem kR {l:Expr} {tl:TE} (hl:PE X l tl):PI X tg l (aDK X.K tl):=by
 intro pins s σ H R I h
 refine thn (hl pins s σ H _ I h) fun v s1 hx9=>?_
 obtain ⟨x,H1,I1,r1,q1⟩:=hx9
 obtain ⟨a,e,⟨xs,hq⟩,q⟩:=q1
 subst e
 cases r1
 obtain ⟨its,rv,p,hz⟩:=I1.list hq
 refine wpAny_pyIter_list p.isList ?_
 refine ⟨s1.heap.objs.size,[s1.heap.objs.size],_,_,H1,rfl,I1.kept (t':=s1.toks) fun b o e=>Qa _ e,aAy a _,⟨_,Qe _ rfl,rfl,rfl⟩,fun b hb=>?_,q⟩
 have e:b=s1.heap.objs.size:=by simpa using hb
 subst e
 exact I1.fpOk (Qi _) (I1.hok.fresh (Qi _))
theorem iC {l:Expr} {tl:TE} (hl:PE X l tl):PI X tg l (aFJ X.K tl):=by
 intro pins s σ H R I h
 refine thn (hl pins s σ H _ I h) fun v s1 hx9=>?_
 obtain ⟨x,H1,I1,r1,q1⟩:=hx9
 obtain ⟨a,e,⟨xs,hq⟩,q⟩:=q1
 subst e
 cases r1
 obtain ⟨its,rv,p,hz⟩:=I1.tuple hq
 refine wpAny_pyIter_tuple (show s1.heap.IsTuple a its.toArray from p) ?_
 refine ⟨s1.heap.objs.size,[s1.heap.objs.size],_,_,H1,rfl,I1.kept (t':=s1.toks) fun b o e=>Qa _ e,xJ a _,⟨_,Qe _ rfl,rfl,rfl⟩,fun b hb=>?_,q⟩
 have e:b=s1.heap.objs.size:=by simpa using hb
 subst e
 exact I1.fpOk (Qi _) (I1.hok.fresh (Qi _))
theorem uY {pins:List (Addr×Obj)} {σ:St} {H:Hp} {s:Shared} {R:It->Hp->Prop} {E:Value->Shared->Prop} {lo hi:Int} {t u v:Tok} {tk:Nat} (I:Inv X pins σ H s) (h1:-(2^62)<=lo) (h2:lo < 2^62) (h3:-(2^62)<=hi) (h4:hi < 2^62)
  (q:R (Itr lo (hi - lo).toNat) H):wpAny (model X.prog X.w) X.A (pyIter (.ref s.heap.objs.size)) (PIE X pins σ tg R) E { s with heap:=s.heap.push { cls:=.type "range",data:=.fields #[.int lo t,.int hi u,.int 1 v] },toks:=tk }:=by
 refine wpAny_pyIter_range (IsRange.new ..) (small_one h1 h2 h3 h4) ?_
 have I1:Inv X pins σ H { s with heap:=s.heap.push { cls:=.type "range",data:=.fields #[.int lo t,.int hi u,.int 1 v] },toks:=tk }:=I.kept fun b o e=>Qa _ e
 refine ⟨(s.heap.push { cls:=.type "range",data:=.fields #[.int lo t,.int hi u,.int 1 v] }).objs.size,[(s.heap.push { cls:=.type "range",data:=.fields #[.int lo t,.int hi u,.int 1 v] }).objs.size],_,_,H,rfl,
  I1.kept (t':=tk) fun b o e=>Qa _ e,xK _ lo (hi - lo).toNat,?_,fun b hb=>?_,q⟩
 ·have e1:lo+((0:Nat):Int)*1=lo:=by simp
  have e2:(((hi - lo).toNat:Nat):Int) - ((0:Nat):Int)=Builtin.Range.rangeSize lo hi 1:=by rw [rangeSize_one]; split <;> omega
  show IsRangeIter _ _ (lo+((0:Nat):Int)*1) ((((hi - lo).toNat:Nat):Int) - ((0:Nat):Int)) 1
  rw [e1,e2]
  exact Qe _ rfl
 ·have e:b=(s.heap.push { cls:=.type "range",data:=.fields #[.int lo t,.int hi u,.int 1 v] }).objs.size:=by simpa using hb
  subst e
  exact I1.fpOk (Qi _) (I1.hok.fresh (Qi _))
def aE4 (ta:TA):TI:=fun σ H R=>ta σ H fun vs H1=>∃ j:Int,vs = [.int j]/\-(2^62)<=j/\j < 2^62/\R (Itr 0 j.toNat) H1
def aE5 (ta:TA):TI:=fun σ H R=>ta σ H fun vs H1=>∃ i j:Int,vs = [.int i,.int j]/\(-(2^62)<=i/\i < 2^62/\-(2^62)<=j/\j < 2^62)/\R (Itr i (j - i).toNat) H1
theorem eV {a:Expr} {ta:TA} {p pos:Pos} (hg:Gl X "range") (hm:X.mg "range" = none) (ha:PA X [a] ta) (hs:starEach [a] X.env = [(false,eval a X.env)]:=by rfl):PI X tg (.Call (.Name "range" p) [a] [] pos) (aE4 ta):=by
 intro pins s σ H R I h
 refine Call_ (iB I hg hm boot_range (PyProof.Rows.callWith_type1 (thn (ha pos pins s σ H _ I h) fun us s1 hx9=>?_) hs rfl))
 obtain ⟨vs,H1,I1,r1,q1⟩:=hx9
 obtain ⟨j,e,q1,q2,q⟩:=q1
 subst e
 cases r1 with
 | cons r rr =>
  cases rr
  obtain ⟨t,rfl⟩:=r
  exact call_range_1 (uY I1 (by omega) (by omega) q1 q2 (by simpa using q))
theorem aAz {a b:Expr} {ta:TA} {p pos:Pos} (hg:Gl X "range") (hm:X.mg "range" = none) (ha:PA X [a,b] ta) (hs:starEach [a,b] X.env = [(false,eval a X.env),(false,eval b X.env)]:=by rfl) (hs2:starEach [b] X.env = [(false,eval b X.env)]:=by rfl) :
  PI X tg (.Call (.Name "range" p) [a,b] [] pos) (aE5 ta):=by
 intro pins s σ H R I h
 refine Call_ (iB I hg hm boot_range (PyProof.Rows.callWith_type1 (thn (ha pos pins s σ H _ I h) fun us s1 hx9=>?_) (by rw [hs,hs2]) (by rw [hs2]; rfl)))
 obtain ⟨vs,H1,I1,r1,q1⟩:=hx9
 obtain ⟨i,j,e,⟨q1,q2,q3,q4⟩,q⟩:=q1
 subst e
 cases r1 with
 | cons r rr =>
  cases rr with
  | cons r' rr =>
   cases rr
   obtain ⟨t,rfl⟩:=r
   obtain ⟨t',rfl⟩:=r'
   exact call_range_2 (uY I1 q1 q2 q3 q4 q)
def aE6 (wi:TI) (g:TG) (tb:TS):TS:=fun D σ H=>wi σ H fun J H1=>∃ W:Nat->Nat->St->Hp->Prop,(∃ m,W 0 m σ H1)/\∀ i m σ H,W i m σ H ->
 (J.stop i H/\D.nx σ H)∨(J.go i H/\∃ N:St->Hp->Prop,(∀ σ' H',N σ' H'->∃ m',m' < m/\W (i+1) m' σ' H')/\∀ x H',J.yld i H x H'->g x σ H' fun σ2 H2=>tb { D with nx:=N,ct:=N,bk:=D.nx } σ2 H2)
def oU (fp:List Addr) (h:Heap):List (Addr×Obj):=fp.filterMap fun b=>(h.get? b).map fun o=>(b,o)
theorem iT {fp:List Addr} {h:Heap} {b:Addr} {o:Obj} (hb:b∈fp) (e:h.get? b=some o):(b,o)∈oU fp h:=Yw.mpr ⟨b,hb,by rw [e]; rfl⟩
theorem aAA {fp:List Addr} {h:Heap} {p:Addr×Obj} (hp:p∈oU fp h):p.1∈fp/\h.get? p.1=some p.2:=by
 obtain ⟨b,hb,e⟩:=Yw.mp hp
 cases q:h.get? b with
 | none=>rw [q] at e; cases e
 | some o =>
  rw [q] at e
  have e':(b,o)=p:=Option.some.inj e
  subst e'
  exact ⟨hb,q⟩
theorem Inv.pinned {pins:List (Addr×Obj)} {σ:St} {H:Hp} {s:Shared} {fp:List Addr} (I:Inv X pins σ H s) (hf:∀ b∈fp,oS X pins H b) (ho:∀ b∈fp,∃ o,s.heap.get? b=some o/\∀ v,o.data≠.cell v):Inv X (pins++oU fp s.heap) σ H s :=
 I.pins_of fun p hp=>(Jf.mp hp).elim (fun z=>I.pin p (Jc _ z)) fun z=>by
  obtain ⟨hb,e⟩:=aAA z
  obtain ⟨f0,f1,f2,_⟩:=hf p.1 hb
  obtain ⟨o,e',d⟩:=ho p.1 hb
  rw [e] at e'; cases e'
  exact ⟨e,f0,f1,f2,d⟩
theorem Inv.unpinned {pins pl:List (Addr×Obj)} {σ:St} {H:Hp} {s:Shared} (I:Inv X (pins++pl) σ H s):Inv X pins σ H s:=I.pins_of fun p hp=>I.pin p (Jc _ (Jq _ hp))
theorem eP {iter:Expr} {body:List Stmt} {wi:TI} {g:TG} {tb:TS} {pos:Pos} (hp:PassesOwn (model X.prog X.w) X.A X.env X.xe) (hc:X.calm=true) (hi:PI X tg iter wi) (hg:PG X tg g) (hb:PSs X body tb)
  (hs:∀ x,foldedSetIterable iter X.env x=pure x:=by intro _; rfl):PS X (.For tg iter body [] pos) (aE6 wi g tb):=by
 intro pins s σ H D I h
 refine wpAny_For (thn (hi pins s σ H _ I h) fun v s1 h1=>thn h1 fun itv s2 h2=>?_) hs
 obtain ⟨it,fp,tn,J,H2,e,I2,T,st2,f2,W,⟨m0,w0⟩,turn⟩:=h2
 subst e
 -- what stays true of the iterator's objects through the loop
 have stat:∀ {H':Hp},(∀ b∈fp,H' b=none)->∀ b∈fp,oS X pins H' b:=fun hn b hb=>⟨hn b hb,(f2 b hb).2⟩
 refine codeAny_forLoop_any (fun n s'=>∃ i σ' H',Inv X pins σ' H' s'/\tn i s'.heap/\(∀ b∈fp,H' b=none)/\W i n σ' H') ?_ m0 ⟨0,σ,H2,I2,st2,fun b hb=>(f2 b hb).1,w0⟩
 rintro n s3 ⟨i,σ3,H3,I3,st3,fr3,w3⟩
 rcases turn i n σ3 H3 w3 with ⟨stop,qn⟩ | ⟨go,N,hN,step⟩
 ·refine wpAny_passesOwn hp (thn (T.done X rfl rfl rfl hc i pins s3 σ3 H3 X.xe I3 (stat fr3) st3 stop) fun r s4 hx9=>?_)
  obtain ⟨hr,I4⟩:=hx9
  subst hr
  exact wpAny_execs_nil ⟨σ3,H3,I4,qn⟩
 ·refine wpAny_passesOwn hp (thn (T.item X rfl rfl rfl hc i pins s3 σ3 H3 X.xe I3 (stat fr3) st3 go) fun r s4 hx9=>?_)
  obtain ⟨u,hr,h4⟩:=hx9
  subst hr
  refine wpAny_passesOwn hp (thn h4 fun _ s5 hx9=>?_)
  obtain ⟨x,H5,I5,r5,y5,st5,fr5⟩:=hx9
  have I5':=I5.pinned (stat fr5) (T.obj _ _ st5)
  refine wpAny_passesOwn hp (thn (hg _ s5 σ3 H5 x u _ I5' r5 (step x H5 y5)) fun _ s6 hx9=>?_)
  obtain ⟨σ6,H6,I6,q6⟩:=hx9
  refine wpAny_passesOwn hp (thn (hb _ s6 σ6 H6 _ I6 q6) fun f s7 q7=>?_)
  have again:∀ {σ7:St} {H7:Hp},Inv X (pins++oU fp s5.heap) σ7 H7 s7->N σ7 H7->∃ m,m < n/\∃ i σ' H',Inv X pins σ' H' s7/\tn i s7.heap/\(∀ b∈fp,H' b=none)/\W i m σ' H':=fun {σ7 H7} I7 n7=>by
   obtain ⟨m',hm,w7⟩:=hN σ7 H7 n7
   refine ⟨m',hm,i+1,σ7,H7,I7.unpinned,T.keep _ _ _ st5 fun b hb o e=>(I7.pin (b,o) (Jc _ (Jc _ (iT hb e)))).1,fun b hb=>?_,w7⟩
   obtain ⟨o,e,d⟩:=T.obj _ _ st5 b hb
   exact (I7.pin (b,o) (Jc _ (Jc _ (iT hb e)))).2.1
  cases f with
  | next=>obtain ⟨σ7,H7,I7,n7⟩:=q7; exact again I7 n7
  | cont=>obtain ⟨σ7,H7,I7,n7⟩:=q7; exact again I7 n7
  | brk=>obtain ⟨σ7,H7,I7,q7⟩:=q7; exact ⟨σ7,H7,I7.unpinned,q7⟩
  | ret v=>obtain ⟨x7,σ7,H7,I7,r7,q7⟩:=q7; exact ⟨x7,σ7,H7,I7.unpinned,r7,q7⟩
end
theorem jO {K:PySem.W.Frag} {a:Addr} {xs:List V} {g:TG} {tb:TS} {D:Ends} {σ:St} {H:Hp} (Pv:Nat->St->Hp->Prop) (h0:Pv 0 σ H) (hl:∀ i σ H,i<=xs.length->Pv i σ H->SqL K H a xs)
  (hs:∀ i x σ H,xs[i]?=some x->Pv i σ H->g x σ H fun σ2 H2=>tb { D with nx:=Pv (i+1),ct:=Pv (i+1),bk:=D.nx } σ2 H2) (hd:∀ σ H,Pv xs.length σ H->D.nx σ H) :
  ∃ W:Nat->Nat->St->Hp->Prop,(∃ m,W 0 m σ H)/\∀ i m σ H,W i m σ H ->
   ((Itl K a).stop i H/\D.nx σ H)∨((Itl K a).go i H/\∃ N:St->Hp->Prop,(∀ σ' H',N σ' H'->∃ m',m' < m/\W (i+1) m' σ' H')/\∀ x H',(Itl K a).yld i H x H'->g x σ H' fun σ2 H2=>tb { D with nx:=N,ct:=N,bk:=D.nx } σ2 H2):=by
 refine ⟨fun i m σ H=>m=xs.length - i/\i<=xs.length/\Pv i σ H,⟨xs.length,by simp,Jm _,h0⟩,?_⟩
 rintro i m σ H ⟨rfl,hi,p⟩
 have q:=hl i σ H hi p
 by_cases hlt:i < xs.length
 ·refine .inr ⟨⟨xs,xs[i],q,by simp [hlt]⟩,Pv (i+1),fun σ' H' p'=>⟨xs.length - (i+1),by omega,rfl,hlt,p'⟩,fun x H' y=>?_⟩
  obtain ⟨e,y⟩:=y
  subst e
  exact hs i x σ _ (y xs q) p
 ·have e:i=xs.length:=by omega
  subst e
  exact .inl ⟨⟨xs,q,Qi _⟩,hd σ H p⟩
theorem tG {K:PySem.W.Frag} {a:Addr} {xs:List V} {g:TG} {tb:TS} {D:Ends} {σ:St} {H:Hp} (Pv:Nat->St->Hp->Prop) (h0:Pv 0 σ H) (hl:∀ i σ H,i<=xs.length->Pv i σ H->SqT K H a xs)
  (hs:∀ i x σ H,xs[i]?=some x->Pv i σ H->g x σ H fun σ2 H2=>tb { D with nx:=Pv (i+1),ct:=Pv (i+1),bk:=D.nx } σ2 H2) (hd:∀ σ H,Pv xs.length σ H->D.nx σ H) :
  ∃ W:Nat->Nat->St->Hp->Prop,(∃ m,W 0 m σ H)/\∀ i m σ H,W i m σ H ->
   ((Itt K a).stop i H/\D.nx σ H)∨((Itt K a).go i H/\∃ N:St->Hp->Prop,(∀ σ' H',N σ' H'->∃ m',m' < m/\W (i+1) m' σ' H')/\∀ x H',(Itt K a).yld i H x H'->g x σ H' fun σ2 H2=>tb { D with nx:=N,ct:=N,bk:=D.nx } σ2 H2):=by
 refine ⟨fun i m σ H=>m=xs.length - i/\i<=xs.length/\Pv i σ H,⟨xs.length,by simp,Jm _,h0⟩,?_⟩
 rintro i m σ H ⟨rfl,hi,p⟩
 have q:=hl i σ H hi p
 by_cases hlt:i < xs.length
 ·refine .inr ⟨⟨xs,xs[i],q,by simp [hlt]⟩,Pv (i+1),fun σ' H' p'=>⟨xs.length - (i+1),by omega,rfl,hlt,p'⟩,fun x H' y=>?_⟩
  obtain ⟨e,y⟩:=y
  subst e
  exact hs i x σ _ (y xs q) p
 ·have e:i=xs.length:=by omega
  subst e
  exact .inl ⟨⟨xs,q,Qi _⟩,hd σ H p⟩
theorem iJ {lo:Int} {n:Nat} {g:TG} {tb:TS} {D:Ends} {σ:St} {H:Hp} (Pv:Nat->St->Hp->Prop) (h0:Pv 0 σ H)
  (hs:∀ i σ H,i < n->Pv i σ H->g (.int (lo+i)) σ H fun σ2 H2=>tb { D with nx:=Pv (i+1),ct:=Pv (i+1),bk:=D.nx } σ2 H2) (hd:∀ σ H,Pv n σ H->D.nx σ H) :
  ∃ W:Nat->Nat->St->Hp->Prop,(∃ m,W 0 m σ H)/\∀ i m σ H,W i m σ H ->
   ((Itr lo n).stop i H/\D.nx σ H)∨((Itr lo n).go i H/\∃ N:St->Hp->Prop,(∀ σ' H',N σ' H'->∃ m',m' < m/\W (i+1) m' σ' H')/\∀ x H',(Itr lo n).yld i H x H'->g x σ H' fun σ2 H2=>tb { D with nx:=N,ct:=N,bk:=D.nx } σ2 H2):=by
 refine ⟨fun i m σ H=>m=n - i/\i<=n/\Pv i σ H,⟨n,by simp,Jm _,h0⟩,?_⟩
 rintro i m σ H ⟨rfl,hi,p⟩
 by_cases hlt:i < n
 ·refine .inr ⟨hlt,Pv (i+1),fun σ' H' p'=>⟨n - (i+1),by omega,rfl,hlt,p'⟩,fun x H' y=>?_⟩
  obtain ⟨e,y⟩:=y
  subst e y
  exact hs i σ _ hlt p
 ·have e:i=n:=by omega
  subst e
  exact .inl ⟨Qi _,hd σ H p⟩
abbrev R2:=V->V->Hp->VK->Prop
def OpR (X:Cx) (f:Value->Value->Sem Value) (r:R2):Prop :=
 ∀ (pins:List (Addr×Obj)) (s:Shared) (σ:St) (H:Hp) (x y:V) (v u:Value) (Q:VK),Inv X pins σ H s->bJ x v->bJ y u->r x y H Q ->
  wpAny (model X.prog X.w) X.A (f v u) (EP X pins σ Q) X.xe s
def UnR (X:Cx) (f:Value->Sem Value) (r:V->Hp->VK->Prop):Prop :=
 ∀ (pins:List (Addr×Obj)) (s:Shared) (σ:St) (H:Hp) (x:V) (v:Value) (Q:VK),Inv X pins σ H s->bJ x v->r x H Q ->
  wpAny (model X.prog X.w) X.A (f v) (EP X pins σ Q) X.xe s
def dP (X:Cx) (f:Value) (r:List V->Hp->VK->Prop):Prop :=
 ∀ (pins:List (Addr×Obj)) (s:Shared) (σ:St) (H:Hp) (xs:List V) (us:List Value) (Q:VK),Inv X pins σ H s->aZ xs us->r xs H Q ->
  wpAny (model X.prog X.w) X.A (call f us) (EP X pins σ Q) X.xe s
def aFK (X:Cx) (r:V->Hp->(Bool->Hp->Prop)->Prop):Prop :=
 ∀ (pins:List (Addr×Obj)) (s:Shared) (σ:St) (H:Hp) (x:V) (v:Value) (Q:Bool->Hp->Prop),Inv X pins σ H s->bJ x v->r x H Q ->
  wpAny (model X.prog X.w) X.A (truthy v) (TP X pins σ Q) X.xe s
def tOp (r:R2) (ta tb:TE):TE:=fun σ H Q=>ta σ H fun x H1=>tb σ H1 fun y H2=>r x y H2 Q
def tUn (r:V->Hp->VK->Prop) (ta:TE):TE:=fun σ H Q=>ta σ H fun x H1=>r x H1 Q
def rI (C:Int->Int->Prop) (g:Int->Int->V):R2:=fun x y H Q=>∃ i j,x=.int i/\y=.int j/\C i j/\Q (g i j) H
def rI0 (g:Int->Int->V):R2:=fun x y H Q=>∃ i j,x=.int i/\y=.int j/\Q (g i j) H
def rU (g:Int->V):V->Hp->VK->Prop:=fun x H Q=>∃ i,x=.int i/\Q (g i) H
section
variable {X:Cx} {a b c:Expr} {ta tb tc:TE} {pos:Pos}
theorem aD9 (ha:PE X a ta) (hb:PE X b tb) {pins:List (Addr×Obj)} {s:Shared} {σ:St} {H:Hp} {R:V->V->Hp->Prop} (I:Inv X pins σ H s)
  (h:ta σ H fun x H1=>tb σ H1 fun y H2=>R x y H2) {Q:Value->Shared->Prop} {f:Value->Value->Sem Value}
  (hf:∀ v u s2 x y H2,Inv X pins σ H2 s2->bJ x v->bJ y u->R x y H2->wpAny (model X.prog X.w) X.A (f v u) Q X.xe s2) :
  wpAny (model X.prog X.w) X.A (eval a X.env) (fun v s₁=>wpAny (model X.prog X.w) X.A (eval b X.env) (fun u s₂=>wpAny (model X.prog X.w) X.A (f v u) Q X.xe s₂) X.xe s₁) X.xe s:=by
 refine thn (ha pins s σ H _ I h) fun v s1 hx9=>?_
 obtain ⟨x,H1,I1,r1,q1⟩:=hx9
 refine thn (hb pins s1 σ H1 _ I1 q1) fun u s2 hx9=>?_
 obtain ⟨y,H2,I2,r2,q2⟩:=hx9
 exact hf v u s2 x y H2 I2 r1 r2 q2
theorem bB {op:Operator} {r:R2} (ho:OpR X (binaryOp op) r) (ha:PE X a ta) (hb:PE X b tb):PE X (.BinOp a op b pos) (tOp r ta tb):=by
 intro pins s σ H Q I h
 exact wpAny_BinOp (aD9 ha hb I h fun v u s2 x y H2 I2 rx ry q=>ho pins s2 σ H2 x y v u Q I2 rx ry q)
theorem rP {op:UnaryOp} {r:V->Hp->VK->Prop} (ho:UnR X (unaryOp op) r) (ha:PE X a ta):PE X (.UnaryOp op a pos) (tUn r ta):=by
 intro pins s σ H Q I h
 refine UnaryOp_ (thn (ha pins s σ H _ I h) fun v s1 hx9=>?_)
 obtain ⟨x,H1,I1,r1,q1⟩:=hx9
 exact ho pins s1 σ H1 x v Q I1 r1 q1
theorem opI {f:Value->Value->Sem Value} {C:Int->Int->Prop} {g:Int->Int->Int}
  (rule:∀ (i j:Int) (t u:Tok) (s:Shared) (Q:Value->Shared->Prop) (E:Value->Shared->Prop),C i j->Q (.int (g i j) s.toks) { s with toks:=s.toks+1 }->wpAny (model X.prog X.w) X.A (f (.int i t) (.int j u)) Q E s) :
  OpR X f (rI C fun i j=>.int (g i j)):=by
 intro pins s σ H x y v u Q I rx ry h
 obtain ⟨i,j,rfl,rfl,hc,q⟩:=h
 obtain ⟨t,rfl⟩:=rx
 obtain ⟨t',rfl⟩:=ry
 exact rule i j t t' s _ _ hc ⟨.int (g i j),H,I.tok _,⟨_,rfl⟩,q⟩
theorem aE7 {f:Value->Value->Sem Value} {g:Int->Int->Int}
  (rule:∀ (i j:Int) (t u:Tok) (s:Shared) (Q:Value->Shared->Prop) (E:Value->Shared->Prop),Q (.int (g i j) s.toks) { s with toks:=s.toks+1 }->wpAny (model X.prog X.w) X.A (f (.int i t) (.int j u)) Q E s) :
  OpR X f (rI0 fun i j=>.int (g i j)):=by
 intro pins s σ H x y v u Q I rx ry h
 obtain ⟨i,j,rfl,rfl,q⟩:=h
 obtain ⟨t,rfl⟩:=rx
 obtain ⟨t',rfl⟩:=ry
 exact rule i j t t' s _ _ ⟨.int (g i j),H,I.tok _,⟨_,rfl⟩,q⟩
theorem aCJ {f:Value->Value->Sem Value} {g:Int->Int->Bool}
  (rule:∀ (i j:Int) (t u:Tok) (s:Shared) (Q:Value->Shared->Prop) (E:Value->Shared->Prop),Q (.bool (g i j)) s->wpAny (model X.prog X.w) X.A (f (.int i t) (.int j u)) Q E s) :
  OpR X f (rI0 fun i j=>.bl (g i j)):=by
 intro pins s σ H x y v u Q I rx ry h
 obtain ⟨i,j,rfl,rfl,q⟩:=h
 obtain ⟨t,rfl⟩:=rx
 obtain ⟨t',rfl⟩:=ry
 exact rule i j t t' s _ _ ⟨.bl (g i j),H,I,rfl,q⟩
def aFL (i j:Int):Prop:=0<=j/\j<=1000000/\i.natAbs < 2^64
def aEa (i j:Int):Prop:=(-(2^64) < i/\i < 2^64)∨(-(2^64) < j/\j < 2^64)
theorem aEa.ok {i j:Int} (h:aEa i j):IntMulOk i j:=by
 rcases h with ⟨h1,h2⟩ | ⟨h1,h2⟩
 ·exact .of_left (intBits_le_64 h1 h2)
 ·exact .of_right (intBits_le_64 h1 h2)
theorem cQ:OpR X (binaryOp .Add) (rI0 fun i j=>.int (i+j)):=aE7 fun _ _ _ _ _ _ _ q=>add_int q
theorem xL:OpR X (binaryOp .Sub) (rI0 fun i j=>.int (i - j)):=aE7 fun _ _ _ _ _ _ _ q=>sub_int q
theorem iD:OpR X (binaryOp .Mult) (rI aEa fun i j=>.int (i*j)):=opI fun _ _ _ _ _ _ _ hc q=>mul_int q hc.ok
theorem jP:OpR X (binaryOp .Mod) (rI (fun _ j=>0 < j) fun i j=>.int (i % j)):=opI fun i j _ _ _ _ _ hc q=>by
 have h1:(0:Int) < j:=hc
 exact mod_int' (by omega) (by rw [Int.fmod_eq_emod_of_nonneg i (by omega)]; exact q)
theorem tH:OpR X (binaryOp .Pow) (rI aFL fun i j=>.int (i^j.toNat)):=opI fun _ _ _ _ _ _ _ hc q=>pow_int_small hc.1 hc.2.1 hc.2.2 q
theorem unI {f:Value->Sem Value} {g:Int->Int}
  (rule:∀ (i:Int) (t:Tok) (s:Shared) (Q:Value->Shared->Prop) (E:Value->Shared->Prop),Q (.int (g i) s.toks) { s with toks:=s.toks+1 }->wpAny (model X.prog X.w) X.A (f (.int i t)) Q E s) :
  UnR X f (rU fun i=>.int (g i)):=by
 intro pins s σ H x v Q I rx h
 obtain ⟨i,rfl,q⟩:=h
 obtain ⟨t,rfl⟩:=rx
 exact rule i t s _ _ ⟨.int (g i),H,I.tok _,⟨_,rfl⟩,q⟩
theorem mV:UnR X (unaryOp .USub) (rU fun i=>.int (-i)):=unI fun _ _ _ _ _ q=>neg_int q
def aE8:V->V->Bool
 | .non,.non=>true | .non,.int _=>true | .int _,.non=>true | .non,.bl _=>true | .bl _,.non=>true | .non,.str _=>true | .str _,.non=>true
 | .int _,.int _=>true | .bl _,.bl _=>true | .str _,.str _=>true | .byt _,.byt _=>true
 | .int _,.str _=>true | .str _,.int _=>true | .bl _,.str _=>true | .str _,.bl _=>true
 | _,_=>false
def rEq:R2:=fun x y H Q=>aE8 x y=true/\Q (.bl (decide (x=y))) H
def rNe:R2:=fun x y H Q=>aE8 x y=true/\Q (.bl (!decide (x=y))) H
theorem tI {i j:Int}:decide (V.int i=V.int j)=(i==j):=by
 rw [Xq]
 simp
theorem aBf {i j:Bool}:decide (V.bl i=V.bl j)=(i==j):=by
 rw [Xq]
 simp
theorem zD {i j:Str}:decide (V.str i=V.str j)=(i==j):=by
 rw [Xq]
 simp
theorem zF {i j:Array UInt8}:decide (V.byt i=V.byt j)=(i.toList==j.toList):=by
 rw [Xq]
 cases i
 cases j
 simp
theorem bM {pins:List (Addr×Obj)} {σ:St} {H:Hp} {s:Shared} {Q:VK} {k k':Bool} (I:Inv X pins σ H s) (q:Q (.bl k) H) (e:k=k'):EP X pins σ Q (.bool k') s:=by
 subst e
 exact ⟨.bl k,H,I,rfl,q⟩
theorem jQ:OpR X (compareOp .Eq) rEq:=by
 intro pins s σ H x y v u Q I rx ry h
 obtain ⟨hs,q⟩:=h
 cases x with
 | non =>
  cases rx
  cases y with
  | non=>cases ry; exact PySem.EqNone.eq_none_none (bM I q (by simp))
  | bl j=>cases ry; exact PySem.EqNone.eq_none_bool (bM I q (by simp))
  | int j=>obtain ⟨t',rfl⟩:=ry; exact PySem.EqNone.eq_none_int (bM I q (by simp))
  | str j=>obtain ⟨t',rfl⟩:=ry; exact PySem.EqNone.eq_none_str (bM I q (by simp))
  | _=>exact absurd (show false=true from hs) Qq
 | bl i =>
  cases rx
  cases y with
  | non=>cases ry; exact PySem.EqNone.eq_bool_none (bM I q (by simp))
  | bl j=>cases ry; exact eq_bool (bM I q aBf)
  | str j=>obtain ⟨t',rfl⟩:=ry; exact PySem.EqMixed.eq_bool_str (bM I q (by simp))
  | _=>exact absurd (show false=true from hs) Qq
 | int i =>
  obtain ⟨t,rfl⟩:=rx
  cases y with
  | non=>cases ry; exact PySem.EqNone.eq_int_none (bM I q (by simp))
  | int j=>obtain ⟨t',rfl⟩:=ry; exact eq_int (bM I q tI)
  | str j=>obtain ⟨t',rfl⟩:=ry; exact PySem.EqMixed.eq_int_str (bM I q (by simp))
  | _=>exact absurd (show false=true from hs) Qq
 | str i =>
  obtain ⟨t,rfl⟩:=rx
  cases y with
  | non=>cases ry; exact PySem.EqNone.eq_str_none (bM I q (by simp))
  | bl j=>cases ry; exact PySem.EqMixed.eq_str_bool (bM I q (by simp))
  | int j=>obtain ⟨t',rfl⟩:=ry; exact PySem.EqMixed.eq_str_int (bM I q (by simp))
  | str j=>obtain ⟨t',rfl⟩:=ry; exact eq_str (bM I q zD)
  | _=>exact absurd (show false=true from hs) Qq
 | byt i =>
  obtain ⟨t,rfl⟩:=rx
  cases y with
  | byt j=>obtain ⟨t',rfl⟩:=ry; exact PySem.W.eq_bytes (bM I q zF)
  | _=>exact absurd (show false=true from hs) Qq
 | _=>cases y <;> exact absurd (show false=true from hs) Qq
theorem lE:OpR X (compareOp .NotEq) rNe:=by
 intro pins s σ H x y v u Q I rx ry h
 obtain ⟨hs,q⟩:=h
 cases x with
 | non =>
  cases rx
  cases y with
  | non=>cases ry; exact PySem.EqNone.ne_none_none (bM I q (by simp))
  | bl j=>cases ry; exact PySem.EqNone.ne_none_bool (bM I q (by simp))
  | int j=>obtain ⟨t',rfl⟩:=ry; exact PySem.EqNone.ne_none_int (bM I q (by simp))
  | str j=>obtain ⟨t',rfl⟩:=ry; exact PySem.EqNone.ne_none_str (bM I q (by simp))
  | _=>exact absurd (show false=true from hs) Qq
 | bl i =>
  cases rx
  cases y with
  | non=>cases ry; exact PySem.EqNone.ne_bool_none (bM I q (by simp))
  | bl j=>cases ry; exact ne_bool (bM I q (congrArg not aBf))
  | str j=>obtain ⟨t',rfl⟩:=ry; exact PySem.EqMixed.ne_bool_str (bM I q (by simp))
  | _=>exact absurd (show false=true from hs) Qq
 | int i =>
  obtain ⟨t,rfl⟩:=rx
  cases y with
  | non=>cases ry; exact PySem.EqNone.ne_int_none (bM I q (by simp))
  | int j=>obtain ⟨t',rfl⟩:=ry; exact ne_int (bM I q (congrArg not tI))
  | str j=>obtain ⟨t',rfl⟩:=ry; exact PySem.EqMixed.ne_int_str (bM I q (by simp))
  | _=>exact absurd (show false=true from hs) Qq
 | str i =>
  obtain ⟨t,rfl⟩:=rx
  cases y with
  | non=>cases ry; exact PySem.EqNone.ne_str_none (bM I q (by simp))
  | bl j=>cases ry; exact PySem.EqMixed.ne_str_bool (bM I q (by simp))
  | int j=>obtain ⟨t',rfl⟩:=ry; exact PySem.EqMixed.ne_str_int (bM I q (by simp))
  | str j=>obtain ⟨t',rfl⟩:=ry; exact ne_str (bM I q (congrArg not zD))
  | _=>exact absurd (show false=true from hs) Qq
 | byt i =>
  obtain ⟨t,rfl⟩:=rx
  cases y with
  | byt j=>obtain ⟨t',rfl⟩:=ry; exact PySem.W.ne_bytes (bM I q (congrArg not zF))
  | _=>exact absurd (show false=true from hs) Qq
 | _=>cases y <;> exact absurd (show false=true from hs) Qq
theorem rQ:OpR X (compareOp .Lt) (rI0 fun i j=>.bl (decide (i < j))):=aCJ fun _ _ _ _ _ _ _ q=>lt_int q
theorem nR:OpR X (compareOp .LtE) (rI0 fun i j=>.bl (decide (i<=j))):=aCJ fun _ _ _ _ _ _ _ q=>le_int q
theorem zG:OpR X (compareOp .Gt) (rI0 fun i j=>.bl (decide (j < i))):=aCJ fun _ _ _ _ _ _ _ q=>gt_int q
theorem zH:OpR X (compareOp .GtE) (rI0 fun i j=>.bl (decide (j<=i))):=aCJ fun _ _ _ _ _ _ _ q=>ge_int q
theorem aEb:OpR X (compareOp .Is) (fun x y H Q=>y=.non/\Q (.bl (decide (x=.non))) H):=by
 intro pins s σ H x y v u Q I rx ry h
 obtain ⟨rfl,q⟩:=h
 cases ry
 refine is_none_gen (bM I q ?_)
 cases x <;> first
  | (cases rx; rfl)
  | (obtain ⟨t,rfl⟩:=rx; rfl)
theorem aCK:OpR X (compareOp .IsNot) (fun x y H Q=>y=.non/\Q (.bl (!decide (x=.non))) H):=by
 intro pins s σ H x y v u Q I rx ry h
 obtain ⟨rfl,q⟩:=h
 cases ry
 refine isnot_none_gen (bM I q ?_)
 cases x <;> first
  | (cases rx; rfl)
  | (obtain ⟨t,rfl⟩:=rx; rfl)
theorem OpR.or {f:Value->Value->Sem Value} {r r':R2} (h:OpR X f r) (h':OpR X f r'):OpR X f (fun x y H Q=>r x y H Q∨r' x y H Q):=by
 intro pins s σ H x y v u Q I rx ry q
 rcases q with q | q
 ·exact h pins s σ H x y v u Q I rx ry q
 ·exact h' pins s σ H x y v u Q I rx ry q
theorem bD (b:Expr) {op:CmpOp} (h:op≠.In:=by decide) (h2:op≠.NotIn:=by decide):behindInMarks op b=false:=by
 have e1:(op==CmpOp.In)=false:=by cases op <;> first | rfl | exact absurd rfl h
 have e2:(op==CmpOp.NotIn)=false:=by cases op <;> first | rfl | exact absurd rfl h2
 cases b <;> simp [behindInMarks,e1,e2]
theorem tJ {op:CmpOp} {r:R2} (ho:OpR X (compareOp op) r) (ha:PE X a ta) (hb:PE X b tb) (hm:behindInMarks op b=false):PE X (.Compare a [op] [b] pos) (tOp r ta tb):=by
 intro pins s σ H Q I h
 exact wpAny_Compare1 (aD9 ha hb I h fun v u s2 x y H2 I2 rx ry q=>ho pins s2 σ H2 x y v u Q I2 rx ry q) hm
def aE9 (t:TE):TT:=fun σ H Q=>t σ H fun x H'=>∃ k,x=.bl k/\Q k H'
theorem aW {op:CmpOp} {r:R2} (ho:OpR X (compareOp op) r) (ha:PE X a ta) (hb:PE X b tb) (hm:behindInMarks op b=false):PT X (.Compare a [op] [b] pos) (aE9 (tOp r ta tb)):=by
 intro pins s σ H Q I h
 refine wpAny_isTrue_Compare1 (thn (ha pins s σ H _ I h) fun v s1 ⟨x,H1,I1,r1,q1⟩=>thn (hb pins s1 σ H1 _ I1 q1) fun u s2 ⟨y,H2,I2,r2,q2⟩ =>
  thn (ho pins s2 σ H2 x y v u _ I2 r1 r2 q2) fun c s3 ⟨z,H3,I3,r3,k,e,q3⟩=>?_) hm
 subst e
 cases r3
 exact wpAny_truthy_bool ⟨H3,I3,q3⟩
def aEc (r r':R2) (ta tb tc:TE):TE:=fun σ H Q=>ta σ H fun x H1=>tb σ H1 fun y H2=>r x y H2 fun z H3=>∃ k,z=.bl k /\
 (if k=true then tc σ H3 fun w' H4=>r' y w' H4 Q else Q (.bl false) H3)
theorem oW {op op':CmpOp} {r r':R2} (ho:OpR X (compareOp op) r) (ho':OpR X (compareOp op') r') (ha:PE X a ta) (hb:PE X b tb) (hc:PE X c tc)
  (hm:lastMarks [op,op'] [b,c]=false:=by with_unfolding_all rfl):PE X (.Compare a [op,op'] [b,c] pos) (aEc r r' ta tb tc):=by
 intro pins s σ H Q I h
 refine Compare_chain (thn (ha pins s σ H _ I h) fun v s1 ⟨x,H1,I1,r1,q1⟩=>chain_link (thn (hb pins s1 σ H1 _ I1 q1) fun u s2 ⟨y,H2,I2,r2,q2⟩ =>
  thn (ho pins s2 σ H2 x y v u _ I2 r1 r2 q2) fun d s3 ⟨z,H3,I3,r3,k,e,q3⟩=>?_)) hm
 subst e
 cases r3
 refine wpAny_truthy_bool ?_
 cases k with
 | false=>exact ite_ff ⟨.bl false,H3,I3,rfl,q3⟩
 | true=>exact ite_tt (chain_last (thn (hc pins s3 σ H3 _ I3 q3) fun w' s4 ⟨z',H4,I4,r4,q4⟩=>ho' pins s4 σ H4 y z' u w' Q I4 r2 r4 q4))
def aFa (K:PySem.W.Frag) (x:V) (H:Hp) (k:Bool):Prop :=
 match x with
 | .non=>k=false
 | .bl b=>k=b
 | .int i=>k=(i !=0)
 | .str y=>y.length<=sizeLine/\k=((y.length:Int) !=0)
 | .byt y=>y.size<=sizeLine/\k=((y.size:Int) !=0)
 | .ref p=>(∃ xs,SqL K H p xs/\k=!xs.isEmpty)∨(∃ xs,SqT K H p xs/\k=!xs.isEmpty)∨∃ kvs,H p=some (.dK kvs)/\k=!kvs.isEmpty
 | _=>False
theorem xM {κ:Type} {kvs:List (κ×V)} {vs:List (κ×Value)} (r:KV kvs vs):(!vs.isEmpty)=!kvs.isEmpty:=by
 cases r <;> rfl
theorem oX {xs:List V} {its:List Value} (r:aZ xs its):(!its.toArray.isEmpty)=!xs.isEmpty:=by
 cases r <;> simp
theorem oY:(sizeLine:Nat) < 2^63:=by rw [sizeLine_eq]; decide
theorem aEd:aFK X (fun x H Q=>∃ k,aFa X.K x H k/\Q k H):=by
 intro pins s σ H x v Q I rx h
 obtain ⟨k,e,q⟩:=h
 have hl:=oY
 have hs:sizeLine=16777216:=sizeLine_eq
 cases x with
 | non =>
  cases rx
  have e':k=false:=e
  subst e'
  exact truthy_none ⟨H,I,q⟩
 | bl b =>
  cases rx
  have e':k=b:=e
  subst e'
  exact wpAny_truthy_bool ⟨H,I,q⟩
 | int i =>
  obtain ⟨t,rfl⟩:=rx
  have e':k=(i !=0):=e
  subst e'
  exact PySem.P.truthy_int ⟨H,I,q⟩
 | str y =>
  obtain ⟨t,rfl⟩:=rx
  obtain ⟨hy,e'⟩:y.length<=sizeLine/\k=((y.length:Int) !=0):=e
  subst e'
  exact PySem.P.truthy_str (by omega) ⟨H,I.tok _,q⟩
 | byt y =>
  obtain ⟨t,rfl⟩:=rx
  obtain ⟨hy,e'⟩:y.size<=sizeLine/\k=((y.size:Int) !=0):=e
  subst e'
  exact PySem.W.truthy_bytes (by omega) ⟨H,I.tok _,q⟩
 | ref p =>
  cases rx
  have e':(∃ xs,SqL X.K H p xs/\k=!xs.isEmpty)∨(∃ xs,SqT X.K H p xs/\k=!xs.isEmpty)∨∃ kvs,H p=some (.dK kvs)/\k=!kvs.isEmpty:=e
  rcases e' with ⟨xs,hx,e'⟩ | ⟨xs,hx,e'⟩ | ⟨kvs,hx,e'⟩
  ·subst e'
   obtain ⟨its,r,pl,hz⟩:=I.list hx
   have hlen:=r.length
   exact wpAny_truthy_list pl.isList (by simp only [Qg]; omega) ⟨H,I.tok _,by rw [oX r]; exact q⟩
  ·subst e'
   obtain ⟨its,r,pl,hz⟩:=I.tuple hx
   have hlen:=r.length
   exact truthy_tuple pl (by simp only [Qg]; omega) ⟨H,I.tok _,by rw [oX r]; exact q⟩
  ·subst e'
   obtain ⟨hz,hS,vs,r,m⟩:kvs.length<=sizeLine/\(p==sysModules)=false/\∃ vs,KV kvs vs/\s.heap.DictOf (cG X.prog X.w) p vs:=I.hok p _ hx
   have hlen:kvs.length=vs.length:=Paired.length r
   exact wpAny_truthy_dict hS m (by omega) ⟨H,I.tok _,by rw [xM r]; exact q⟩
 | _=>exact (show False from e).elim
theorem aBg (ha:PE X a ta) (he:∀ whole,isTrue a X.env whole=(do let v<-whole; standAt a.pos; holding [v] (truthy v))) :
  PT X a (fun σ H Q=>ta σ H fun x H'=>∃ k,aFa X.K x H' k/\Q k H'):=by
 intro pins s σ H Q I h
 refine isTrue_plain (thn (ha pins s σ H _ I h) fun v s1 hx9=>?_) (he _)
 obtain ⟨x,H1,I1,r1,q1⟩:=hx9
 exact aEd pins s1 σ H1 x v Q I1 r1 q1
theorem gG {x:V} {us:List Value} (r:aZ [x] us):∃ u,us = [u]/\bJ x u:=by
 cases r with
 | cons r1 r2=>cases r2; exact ⟨_,rfl,r1⟩
theorem lF {x y:V} {us:List Value} (r:aZ [x,y] us):∃ u w',us = [u,w']/\bJ x u/\bJ y w':=by
 cases r with
 | cons r1 r2 =>
  cases r2 with
  | cons r3 r4=>cases r4; exact ⟨_,_,rfl,r1,r3⟩
theorem aAB (hc:X.calm=true):dP X (.builtin "min") (fun xs H Q=>∃ i j,xs = [.int i,.int j]/\Q (.int (if j < i then j else i)) H):=by
 intro pins s σ H xs us Q I r h
 obtain ⟨i,j,rfl,q⟩:=h
 obtain ⟨u,w',rfl,⟨t,rfl⟩,⟨t',rfl⟩⟩:=lF r
 refine min_two_ints (I.ok.hd hc) fun h' tk k=>⟨_,H,I.kept k,?_,q⟩
 by_cases hj:j < i
 ·rw [if_pos hj,if_pos hj]; exact ⟨_,rfl⟩
 ·rw [if_neg hj,if_neg hj]; exact ⟨_,rfl⟩
end
structure ObjM (h:Heap) (x dx C:Addr) (mA:Str->Option Value):Prop where
 obj:h.get? x=some (PySem.W.instObj C dx)
 ns:h.Ns1 dx mA
 ne:dx≠x
theorem aAC {h:Heap} {dx:Addr} {mA:Str->Option Value} (n:h.Ns1 dx mA):∃ od,h.get? dx=some od/\∀ name,PySem.W.lookIn name od=some (mA name):=by
 obtain ⟨o,es,ep,ho,hd,hk,_,hm⟩:=n
 refine ⟨o,ho,fun name=>?_⟩
 have e:=hm name
 unfold nsFind findBy at e
 rw [<- Array.find?_toList] at e
 unfold PySem.W.lookIn
 rw [hd]
 dsimp only
 split
 ·rename_i y q
  rw [q] at e
  exact congrArg some e
 ·rename_i q
  rw [q] at e
  have a:es.toList.any (·.refKey)=false:=by
   rw [List.any_eq_false]
   intro y hy
   obtain ⟨z,t,hkey⟩:=hk y (Array.mem_toList_iff.mp hy)
   simp [DictEntry.refKey,hkey]
  have a':¬ es.toList.any (·.refKey)=true:=by rw [a]; exact Qq
  rw [if_neg a']
  exact congrArg some e
theorem ObjM.look {h:Heap} {x dx C:Addr} {mA:Str->Option Value} (I:ObjM h x dx C mA):∃ od,PySem.W.InstAt h x (PySem.W.instObj C dx) C (some od)/\∀ name,PySem.W.lookIn name od=some (mA name) :=
 let ⟨od,ho,hl⟩:=aAC I.ns
 ⟨od,⟨I.obj,rfl,rfl,ho⟩,hl⟩
section
variable {prog:Program} {w:World} {A:Around} {E:Value->Shared->Prop} {s:Shared} {K:PySem.W.Frag} {x dx C f:Addr} {mA:Str->Option Value} {name:Str} {v:Value}
end
theorem oC.some_of {v:V} {o:Option Value} (r:oC (some v) o):∃ u,o=some u/\bJ v u:=by
 cases o with
 | none=>exact (show False from r).elim
 | some u=>exact ⟨u,rfl,r⟩
section
variable {P:Program} {w:World} {H H':Hp} {h h':Heap} {a C dx:Addr} {fs fs':List (Str×V)}
end
structure Cls (K:PySem.W.Frag) (C:Addr):Prop where
 pg:PySem.W.plainGet K C Str.empty=true
 hd:PySem.W.hasDictIn K C=true
 po:PySem.W.plainOver K C=true
 sa:PySem.W.findIn K (.ref C) "__setattr__" = some (some (.builtin "object.__setattr__"))
theorem Cls.get {K:PySem.W.Frag} {C:Addr} (c:Cls K C) (f:Str):PySem.W.plainGet K C f=true:=c.pg
def aBh (K:PySem.W.Frag) (C:Addr) (f:Str):Prop:=PySem.W.findIn K (.ref C) f=some none
theorem aBh.taker {K:PySem.W.Frag} {C:Addr} {f:Str} (n:aBh K C f):PySem.W.takerIn K C f=some none:=by
 unfold PySem.W.takerIn
 rw [show PySem.W.findIn K (.ref C) f=some none from n]
 rfl
structure Con (K:PySem.W.Frag) (C:Addr) (f:Str) (v:V) (u:Value):Prop where
 at_:PySem.W.findIn K (.ref C) f=some (some u)
 rel:bJ v u
 get:PySem.W.specialIn K u "__get__" = some none
 cp:PySem.W.copiedNames.contains f=false
structure Meth (K:PySem.W.Frag) (C:Addr) (m:Str) (f:Addr):Prop where
 at_:PySem.W.findIn K (.ref C) m=some (some (.ref f))
 fn:PySem.W.isFn K (.ref f)=true
 kp:PySem.W.keepIn K (.ref f)=true
section
variable {X:Cx} {pins:List (Addr×Obj)} {σ:St} {H:Hp} {s:Shared} {a C dx:Addr} {fs:List (Str×V)} {f:Str} {v:V} {A:Around} {E:Value->Shared->Prop}
theorem Inv.made (I:Inv X pins σ H s):Inv X pins σ (upd (upd H s.heap.objs.size (.own (s.heap.objs.size+1))) (s.heap.objs.size+1) (.ins C s.heap.objs.size []))
  { s with heap:=(s.heap.push PySem.W.emptyDict).push (PySem.W.instObj C s.heap.objs.size) }:=by
 have e1:(s.heap.push PySem.W.emptyDict).get? s.heap.objs.size=some PySem.W.emptyDict:=Qe s.heap rfl
 have e2:((s.heap.push PySem.W.emptyDict).push (PySem.W.instObj C s.heap.objs.size)).get? (s.heap.objs.size+1)=some (PySem.W.instObj C s.heap.objs.size):=by
  have:=Qe (s.heap.push PySem.W.emptyDict) (o:=PySem.W.instObj C s.heap.objs.size) rfl
  rwa [Qz] at this
 have e3:(s.heap.push PySem.W.emptyDict).Ns s.heap.objs.size (fun _=>none):=⟨PySem.W.emptyDict,#[],_,e1,rfl,(fun e he=>absurd he (by simp)),fun _=>rfl⟩
 have I1:=I.laid (a:=s.heap.objs.size) (o:=.own (s.heap.objs.size+1)) (h':=s.heap.push PySem.W.emptyDict) (t':=s.toks) (fun b u q=>Qa _ q) (Qi _) ⟨_,e1⟩
 refine I1.laid (a:=s.heap.objs.size+1) (o:=.ins C s.heap.objs.size []) (t':=s.toks) (fun b u q=>Qa _ q) (Yz (Qz _ _)) ?_
 have ne:s.heap.objs.size≠s.heap.objs.size+1:=Qt (Zf _)
 refine ⟨by rw [aK ne,aC],Jm _,ne,e2,fun _=>none,(Heap.Ns1.of_empty e3).at fun o q=>Qa _ q,fun _=>True.intro,fun y hy=>absurd rfl hy⟩
end
section
variable {X:Cx} {o e value:Expr} {f:Str} {pos pos' tpos:Pos} {ta tv:TE}
end
section
variable {X:Cx} {pins:List (Addr×Obj)} {σ:St} {H:Hp} {s:Shared} {A:Around} {E:Value->Shared->Prop} {Q:Value->Shared->Prop} {c:Value} {b:Bool}
inductive TyOf (K:PySem.W.Frag) (H:Hp):V->Value->Prop where
 | non:TyOf K H .non (.type "NoneType")
 | bl (x:Bool):TyOf K H (.bl x) (.type "bool")
 | int (i:Int):TyOf K H (.int i) (.type "int")
 | str (x:Str):TyOf K H (.str x) (.type "str")
 | flt (x:UInt64):TyOf K H (.flt x) (.type "float")
 | lst {a:Addr} {xs:List V} (e:H a=some (.lst xs)):TyOf K H (.ref a) (.type "list")
 | frz {a:Addr} {o:Obj} {xs:List V} (e:H a=some (.frz o (.lst xs))):TyOf K H (.ref a) (.type "list")
 | tup {a:Addr} {xs:List V} (e:H a=some (.tup xs)):TyOf K H (.ref a) (.type "tuple")
 | dK {a:Addr} {kvs:List (Key×V)} (e:H a=some (.dK kvs)):TyOf K H (.ref a) (.type "dict")
 | dT {a:Addr} {kvs:List (List Key×V)} (e:H a=some (.dT kvs)):TyOf K H (.ref a) (.type "dict")
 | ins {a C dx:Addr} {fs:List (Str×V)} (e:H a=some (.ins C dx fs)) (cl:Cls K C) (ha:PySem.W.findIn K (.ref C) "__class__" = some (some (.builtin "object.__class__")))
   (hn:PySem.W.specialIn K (.builtin "object.__class__") "__get__" = some (some (.builtin "getset_descriptor.__get__"))) (htk:PySem.W.takesIn K (.builtin "object.__class__")=some true)
   (hm:PySem.W.mroIn K C (.type "object")=some true):TyOf K H (.ref a) (.ref C)
end
structure Room (k:Nat) (A:Around):Prop where
 hd:A.handled=none
 dp:A.depth+3*k+5 < recursionLimit
 un:A.units+16*k+200 < cLine
 gd:A.guards=some []
theorem Room.mono {j k:Nat} {A:Around} (r:Room k A) (h:j<=k):Room j A:=⟨r.hd,by have:=r.dp; omega,by have:=r.un; omega,r.gd⟩
theorem Room.deeper {k:Nat} {A:Around} (r:Room (k+1) A) (env:Env):Room k (A.deeper env) :=
 ⟨r.hd,by have:=r.dp; show A.depth+1+3*k+5 < _; omega,by have:=r.un; show A.units+3+16*k+200 < _; omega,r.gd⟩
theorem Room.in1 {k:Nat} {A:Around} (r:Room (k+1) A):Room k A.in1 :=
 ⟨r.hd,by have:=r.dp; show A.depth+3*k+5 < _; omega,by have:=r.un; show A.units+1+16*k+200 < _; omega,r.gd⟩
theorem Room.depth {k:Nat} {A:Around} (r:Room k A):A.depth < recursionLimit:=by have:=r.dp; omega
theorem Room.units {k:Nat} {A:Around} (r:Room k A):A.units+64 < cLine:=by have:=r.un; omega
abbrev qZ:TA:=fun _ H Q=>Q [] H
abbrev lZ (ta:TE) (tr:TA):TA:=fun σ H Q=>ta σ H fun x H1=>tr σ H1 fun xs H2=>Q (x::xs) H2
section
variable {X:Cx} {e:Expr} {es:List Expr} {te:TE} {t:TA} {pos:Pos}
theorem aE:PA X [] qZ:=fun _ _ _ _ H Q I h=>Calls.spliced_nil ⟨[],H,I,.nil,h⟩
theorem aA (ha:PE X e te) (hr:PA X es t) (hs:starEach (e::es) X.env=(false,eval e X.env)::starEach es X.env:=by rfl):PA X (e::es) (lZ te t):=by
 intro pos pins s σ H Q I h
 rw [hs]
 show wpAny _ _ (spliced ((false,eval e X.env)::backTo pos (starEach es X.env))) _ _ s
 refine Calls.spliced_cons (thn (ha pins s σ H _ I h) fun u s1 hx9=>?_)
 obtain ⟨x,H1,I1,r1,q1⟩:=hx9
 refine thn (hr pos pins s1 σ H1 _ I1 q1) fun us s2 hx9=>?_
 obtain ⟨xs,H2,I2,r2,q2⟩:=hx9
 exact ⟨x::xs,H2,I2,.cons r1 r2,q2⟩
def aCL (t:TA):TE:=fun σ H Q=>t σ H fun xs H1=>xs.length<=sizeLine/\∀ p,H1 p=none->Q (.ref p) (upd H1 p (.tup xs))
def aCM (t:TA):TE:=fun σ H Q=>t σ H fun xs H1=>xs.length<=sizeLine/\∀ p,H1 p=none->Q (.ref p) (upd H1 p (.lst xs))
theorem eY {x1} (h:PA X es t):PE X (.Tuple es x1 pos) (aCL t):=by
 intro pins s σ H Q I hq
 refine wpAny_Tuple_spliced (thn (h pos pins s σ H _ I hq) fun us s1 ⟨xs,H1,I1,r,z,q⟩=>⟨by rw [<- r.length]; exact z,?_⟩)
 have hf:H1 s1.heap.objs.size=none:=I1.hok.fresh (Qi _)
 refine ⟨.ref s1.heap.objs.size,upd H1 s1.heap.objs.size (.tup xs),I1.laid (t':=s1.toks) (fun b u e=>Qa _ e) (Qi _) ?_,rfl,q _ hf⟩
 exact ⟨z,us,0,r,Qe _ rfl⟩
theorem dE (h:PA X es t):PE X (.List es pos) (aCM t):=by
 intro pins s σ H Q I hq
 refine wpAny_List_spliced (thn (h pos pins s σ H _ I hq) fun us s1 ⟨xs,H1,I1,r,z,q⟩=>⟨by rw [<- r.length]; exact z,?_⟩)
 have hf:H1 s1.heap.objs.size=none:=I1.hok.fresh (Qi _)
 refine ⟨.ref s1.heap.objs.size,upd H1 s1.heap.objs.size (.lst xs),I1.laid (t':=s1.toks) (fun b u e=>Qa _ e) (Qi _) ?_,rfl,q _ hf⟩
 exact ⟨z,us,0,r,Qe _ rfl⟩
end
abbrev Sp:=List V->Hp->VK->XK->Prop
abbrev CXT:=List Env->Hp->Shared->XK->Value->Shared->Prop
structure Env0 (P:Program) (w:World) (K:PySem.W.Frag) (mg:Str->Option Value) (base:Heap) (A:Around) (outer:List Env) (s:Shared) (H:Hp):Prop where
 frames:A.frames=some outer
 mod:Mod K mg base
 bs:∀ b o,base.get? b=some o->s.heap.get? b=some o/\H b=none
 bsz:base.objs.size<=s.heap.objs.size
 funs:s.heap.FunFrames base outer
 frf:∀ b∈frs outer,H b=none
 hok:HOk P w H s.heap
 bare:AllBare s.gens
def CE (outer:List Env) (P:Program) (w:World) (H:Hp) (s:Shared) (Q:VK) (u:Value) (s':Shared):Prop :=
 ∃ v H',s'.os=s.os/\AllBare s'.gens/\Un (frs outer) [] H H' s.heap s'.heap/\HOk P w H' s'.heap/\bJ v u/\Q v H'
def CR (CX:CXT) (outer:List Env) (P:Program) (w:World) (H:Hp) (s:Shared) (Q:VK) (E:XK) (r:Result) (s':Shared):Prop :=
 match r with
 | .ok (.ret u)=>CE outer P w H s Q u s'
 | .ok _=>False
 | .error e=>CX outer H s E e s'
structure FnOk (P:Program) (w:World) (K:PySem.W.Frag) (mg:Str->Option Value) (base:Heap) (CX:CXT) (k:Nat) (f:Addr) (fd:FuncData) (ps:List Str) (sp:Sp):Prop where
 len:∀ vs H Q E,sp vs H Q E->vs.length=ps.length
 run:∀ (A:Around) (outer:List Env) (s:Shared) (H:Hp) (args:Args) (us:List Value) (vs:List V) (Q:VK) (E:XK),Room k A->Env0 P w K mg base A outer s H->BindsTo s fd args (ps.zip us)->aZ vs us->sp vs H Q E ->
  codeAny (model P w) A (.call (.ref f) args) (CR CX outer P w H s Q E) s
theorem FnOk.mono {P:Program} {w:World} {K:PySem.W.Frag} {mg:Str->Option Value} {base:Heap} {CX:CXT} {j k:Nat} {f:Addr} {fd:FuncData} {ps:List Str} {sp:Sp} (F:FnOk P w K mg base CX j f fd ps sp) (h:j<=k) :
  FnOk P w K mg base CX k f fd ps sp:=⟨F.len,fun A outer s H args us vs Q E hr=>F.run A outer s H args us vs Q E (hr.mono h)⟩
theorem FnOk.imp {P:Program} {w:World} {K:PySem.W.Frag} {mg:Str->Option Value} {base:Heap} {CX:CXT} {k:Nat} {f:Addr} {fd:FuncData} {ps:List Str} {sp sp':Sp} (F:FnOk P w K mg base CX k f fd ps sp)
  (h:∀ vs H Q E,sp' vs H Q E->sp vs H Q E):FnOk P w K mg base CX k f fd ps sp' :=
 ⟨fun vs H Q E q=>F.len vs H Q E (h _ _ _ _ q),fun A outer s H args us vs Q E hr he hb hv hs=>F.run A outer s H args us vs Q E hr he hb hv (h _ _ _ _ hs)⟩
theorem Env0.in1 {P:Program} {w:World} {K:PySem.W.Frag} {mg:Str->Option Value} {base:Heap} {A:Around} {outer:List Env} {s:Shared} {H:Hp} (e:Env0 P w K mg base A outer s H) :
  Env0 P w K mg base A.in1 outer s H:=⟨e.frames,e.mod,e.bs,e.bsz,e.funs,e.frf,e.hok,e.bare⟩
section
variable {X:Cx} {pins:List (Addr×Obj)} {σ:St} {H:Hp} {s s':Shared}
theorem Inv.env0 (I:Inv X pins σ H s):Env0 X.prog X.w X.K X.mg X.base X.A X.stack s H :=
 ⟨I.ok.frames,I.ok.mod,I.bs,Qx I.ok.bsz I.sz,I.stack,I.stkFree,I.hok,I.bare⟩
theorem Inv.after {Q:VK} {u:Value} (I:Inv X pins σ H s) (h:CE X.stack X.prog X.w H s Q u s'):EP X pins σ Q u s':=by
 obtain ⟨v,H',os,bare,un,hok,r,q⟩:=h
 obtain ⟨hh,g,d,t,os'⟩:=s'
 obtain rfl:os'=s.os:=os
 exact ⟨v,H',I.call (h':=hh) (g':=g) (d':=d) (t':=t) (ch:=[]) un hok bare (fun b z=>absurd z (by simp)),r,q⟩
end
def rR (sp:Sp) (dvs:List V) (E:XK) (t:TA):TE:=fun σ H Q=>t σ H fun vs H1=>sp (vs++dvs) H1 Q E
def mC (K:PySem.W.Frag) (fd:FuncData) (ps:List Str) (ds:List Value):Prop :=
 ∀ (s:Shared) (us:List Value),K.In s.heap->(us++ds).length=ps.length->BindsTo s fd ⟨us,[]⟩ (ps.zip (us++ds))
theorem mC.all {K:PySem.W.Frag} {fd:FuncData} {ps:List Str} (h:∀ us:List Value,us.length=ps.length->bindArgs fd ⟨us,[]⟩=pure (ps.zip us)):mC K fd ps []:=fun s us _ hl=>by
 rw [Zr] at hl ⊢
 exact .of_eq (h us hl)
def mW (CX:CXT) (X:Cx) (E:XK):Prop:=∀ (pins:List (Addr×Obj)) (σ:St) (H:Hp) (s:Shared) (e:Value) (s':Shared),Inv X pins σ H s->CX X.stack H s E e s'->X.xe e s'
section
variable {X:Cx} {CX:CXT} {k:Nat} {f C:Addr} {fd:FuncData} {ps:List Str} {sp:Sp} {dvs:List V} {ds:List Value} {E:XK} {x m:Str} {p pos apos:Pos} {e o:Expr} {es:List Expr} {ta:TE} {t:TA}
theorem aBi {pins:List (Addr×Obj)} {σ:St} {H:Hp} {s:Shared} {Q:VK} {us:List Value} {vs:List V} (F:FnOk X.prog X.w X.K X.mg X.base CX k f fd ps sp) (hr:Room k X.A) (hb:mC X.K fd ps ds) (hd:aZ dvs ds) (hx:mW CX X E)
  (I:Inv X pins σ H s) (r:aZ vs us) (h:sp (vs++dvs) H Q E):wpAny (model X.prog X.w) X.A (call (.ref f) us) (EP X pins σ Q) X.xe s:=by
 have r2:aZ (vs++dvs) (us++ds):=r.append hd
 have hl:(us++ds).length=ps.length:=by rw [<- r2.length]; exact F.len _ _ _ _ h
 refine wpAny_call (codeAny_mono (F.run X.A X.stack s H ⟨us,[]⟩ (us++ds) (vs++dvs) Q E hr I.env0 (hb s us I.kIn hl) r2 h) fun r s' hq=>?_)
 cases r with
 | error e=>exact hx pins σ H s e s' I hq
 | ok fl =>
  cases fl with
  | ret u=>exact I.after hq
  | next=>exact False.elim hq
  | brk=>exact False.elim hq
  | cont=>exact False.elim hq
theorem zI (F:FnOk X.prog X.w X.K X.mg X.base CX k f fd ps sp) (hr:Room k X.A) (hg:Gl X x) (hm:X.mg x=some (.ref f)) (hk:PySem.W.keepIn X.K (.ref f)=true) (hb:mC X.K fd ps ds) (hd:aZ dvs ds) (hx:mW CX X E)
  (ha:PA X (e::es) t) (hdb:(x==("__debug__" : Str))=false:=by decide) (he:starEach (e::es) X.env=(false,eval e X.env)::starEach es X.env:=by rfl) (hpl:(backTo pos (starEach es X.env)).any (·.1)=false:=by rfl) :
  PE X (.Call (.Name x p) (e::es) [] pos) (rR sp dvs E t):=by
 intro pins s σ H Q I h
 refine wpAny_Call_Name_kw (kP I hg hm ?_ hdb)
 refine PySem.W.callWith_K (h₀:=X.base) I.ok.mod.kin hk (thn (ha pos pins s σ H _ I h) fun us s1 ⟨vs,H1,I1,r,q⟩=>⟨I1.kIn,?_⟩) he hpl
 exact aBi F hr hb hd hx I1 r q
theorem aBj (F:FnOk X.prog X.w X.K X.mg X.base CX k f fd ps sp) (hr:Room k X.A) (hg:Gl X x) (hm:X.mg x=some (.ref f)) (hk:PySem.W.keepIn X.K (.ref f)=true) (hb:mC X.K fd ps ds) (hd:aZ dvs ds) (hx:mW CX X E)
  (hdb:(x==("__debug__" : Str))=false:=by decide):PE X (.Call (.Name x p) [] [] pos) (rR sp dvs E qZ):=by
 intro pins s σ H Q I h
 refine wpAny_Call_Name_kw (kP I hg hm ?_ hdb)
 exact PySem.W.callWith_K0 I.kIn hk (aBi (us:=[]) F hr hb hd hx I .nil h)
structure Mk (K:PySem.W.Frag) (C f:Addr):Prop where
 makes:PySem.W.makesIn K C=true
 init:PySem.W.findIn K (.ref C) "__init__" = some (some (.ref f))
 fn:PySem.W.isFn K (.ref f)=true
 kp:PySem.W.keepIn K (.ref C)=true
end
section
variable {X:Cx} {CX:CXT} {k:Nat} {f C:Addr} {fd:FuncData} {ps ks:List Str} {sp:Sp} {E:XK} {x m:Str} {p pos apos kpos:Pos} {e o:Expr} {es:List Expr} {kws:List Keyword} {te ta:TE} {t tk:TA} {nm:Option Str}
structure KBinds (K:PySem.W.Frag) (fd:FuncData) (ps ks:List Str) (g:List Value->List Value->List Value) (gV:List V->List V->List V):Prop where
 to:∀ (s:Shared) (us ws:List Value),K.In s.heap->(g us ws).length=ps.length->BindsTo s fd ⟨us,ks.zip ws⟩ (ps.zip (g us ws))
 rel:∀ {vs:List V} {us:List Value} {zs:List V} {ws:List Value},aZ vs us->aZ zs ws->aZ (gV vs zs) (g us ws)
variable {g:List Value->List Value->List Value} {gV:List V->List V->List V}
end
structure FnScope (N P:List Str) (sc:Scope):Prop where
 kind:sc.kind=.function
 co:sc.isCoroutine=false
 gen:sc.isGenerator=false
 nd:N.Nodup
 pre:N.take P.length=P
 par:∀ x∈P,sc.names.lookup x=some .local∨sc.names.lookup x=some .cell
 nofree:∀ y∈sc.names,y.2≠.free
theorem rS {kindOf:Str->Option NameKind} {x:Str}:∀ {binds:List (Str×Value)} {m:Str->Option Value},(∀ v,(x,v)∉binds)->bindL kindOf binds m x=m x
 | [],_,_=>rfl
 | (n,v)::r,m,h=>by
  unfold bindL
  rw [rS fun w hw=>h w (Qm _ hw)]
  split
  ·have:x≠n:=by rintro rfl; exact h v Qo
   simp [this]
  ·rfl
theorem rT {kindOf:Str->Option NameKind} {x:Str}:∀ {binds:List (Str×Value)} {m:Str->Option Value},(∀ v,(x,v)∉binds)->bindC kindOf binds m x=m x
 | [],_,_=>rfl
 | (n,v)::r,m,h=>by
  unfold bindC
  rw [rT fun w hw=>h w (Qm _ hw)]
  split
  ·rfl
  ·have:x≠n:=by rintro rfl; exact h v Qo
   simp [this]
theorem rV {kindOf:Str->Option NameKind} {x:Str} {v:Value}:∀ {P:List Str} {vs:List Value} {i:Nat} {m:Str->Option Value},P.Nodup->P[i]?=some x->vs[i]?=some v->kindOf x=some .local ->
  bindL kindOf (P.zip vs) m x=some v
 | [],_,_,_,_,h,_,_=>by simp at h
 | _::_,[],_,_,_,_,h,_=>by simp at h
 | p::P,w::vs,0,m,nd,h1,h2,hk=>by
  simp at h1 h2; subst h1; subst h2
  show bindL kindOf ((p,w)::P.zip vs) m p=_
  unfold bindL
  rw [rS fun v hv=>(Xh.mp nd).1 (Yl hv).1,if_pos hk]
  simp
 | p::P,w::vs,i+1,m,nd,h1,h2,hk=>by
  show bindL kindOf ((p,w)::P.zip vs) m x=_
  unfold bindL
  exact rV (i:=i) (Xh.mp nd).2 (by simpa using h1) (by simpa using h2) hk
theorem rW {kindOf:Str->Option NameKind} {x:Str} {v:Value}:∀ {P:List Str} {vs:List Value} {i:Nat} {m:Str->Option Value},P.Nodup->P[i]?=some x->vs[i]?=some v->kindOf x≠some .local ->
  bindC kindOf (P.zip vs) m x=some v
 | [],_,_,_,_,h,_,_=>by simp at h
 | _::_,[],_,_,_,_,h,_=>by simp at h
 | p::P,w::vs,0,m,nd,h1,h2,hk=>by
  simp at h1 h2; subst h1; subst h2
  show bindC kindOf ((p,w)::P.zip vs) m p=_
  unfold bindC
  rw [rT fun v hv=>(Xh.mp nd).1 (Yl hv).1,if_neg hk]
  simp
 | p::P,w::vs,i+1,m,nd,h1,h2,hk=>by
  show bindC kindOf ((p,w)::P.zip vs) m x=_
  unfold bindC
  exact rW (i:=i) (Xh.mp nd).2 (by simpa using h1) (by simpa using h2) hk
def lG (N:List Str) (vs:List V):St:=vs.map some++List.replicate (N.length - vs.length) none
def lM (CX:CXT) (P:Program) (w:World) (K:PySem.W.Frag) (mg:Str->Option Value) (base:Heap) (N:List Str) (qual:Str) (scope:Scope) (f:Addr) (cd:Value) (A:Around) (outer:List Env) (s:Shared) (H:Hp) (E:XK):Cx where
 prog:=P
 w:=w
 K:=K
 mg:=mg
 base:=base
 A:=A.deeper (envOfC qual scope s.heap.objs.size f cd)
 N:=N
 s₀:=s
 H₀:=H
 env:=envOfC qual scope s.heap.objs.size f cd
 outer:=outer
 stack:=envOfC qual scope s.heap.objs.size f cd::outer
 ex:=[]
 calm:=true
 fn:=fun _=>true
 pn:=[]
 xe:=fun e s'=>wpAny (model P w) (A.deeper (envOfC qual scope s.heap.objs.size f cd)) (leaving (envOfC qual scope s.heap.objs.size f cd) e) (fun _ s''=>CX outer H s E e s'') (fun e' s''=>CX outer H s E e' s'') s'
theorem uZ {sc:Scope} {n:Nat} {x:Str} (h:sc.names.lookup x=some .cell):∃ c,(cellsFrom n sc.names []).lookup x=some c:=by
 have q:=PySem.W.cellsFrom_some sc.names n [] (.inl h)
 exact Yb.mp q
theorem aAD {CX:CXT} {P:Program} {w:World} {K:PySem.W.Frag} {mg:Str->Option Value} {base:Heap} {N ps:List Str} {qual:Str} {scope:Scope} {f:Addr} {cd:Value} {A:Around} {outer:List Env} {s s1:Shared} {H:Hp} {E:XK} {us:List Value} {vs:List V}
  (S:FnScope N ps scope) (hd:A.handled=none) (e0:Env0 P w K mg base A outer s H) (hl:vs.length=ps.length) (r:aZ vs us)
  (x:InCallC s s.heap.objs.size (bindL (envOfC qual scope s.heap.objs.size f cd).kindOf (ps.zip us) fun _=>none) (cellsFrom (s.heap.objs.size+1) scope.names []) (bindC (envOfC qual scope s.heap.objs.size f cd).kindOf (ps.zip us) fun _=>none) s1) :
  Inv (lM CX P w K mg base N qual scope f cd A outer s H E) [] (lG N vs) H s1:=by
 have hpl:ps.length<=N.length:=by have:=congrArg Ys S.pre; rw [Jd] at this; omega
 obtain ⟨h1,tk,rfl,hk⟩:=x.done
 have noA:∀ b:Addr,b∉(lM CX P w K mg base N qual scope f cd A outer s H E).ex:=fun b z=>absurd (show b∈([]:List Addr) from z) (by simp)
 refine ⟨⟨e0.mod,S.kind,rfl,rfl,Qi _,fun y z c h1 h2=>?_,fun y hy=>?_,fun y c _ h=>?_,fun _=>hd,Around.frames_deeper e0.frames,.inr ⟨rfl,rfl⟩,fun b z=>absurd z (noA b),e0.bs,e0.bsz,fun b _ _=>noA b,fun b z=>absurd z (noA b),e0.funs,e0.frf⟩,
  rfl,e0.bare,Un.kept hk,⟨_,x.toInCall.ns,fun i y v h1 h2 h3=>?_⟩,fun y c h=>⟨_,x.cell y c h⟩,e0.hok.fresh (Qi _),fun y c h=>?_,fun p hp=>absurd (show p∈([]:List (Addr×Obj)) from hp) (by simp),e0.hok.kept hk,?_⟩
 ·exact name_of_addr x.apart (PySem.mem_of_lookup h1) (PySem.mem_of_lookup h2)
 ·have hy:scope.names.lookup y=some .cell∨scope.names.lookup y=some .free:=hy
  rcases hy with hy | hy
  ·exact uZ hy
  ·exact absurd rfl (S.nofree _ (PySem.mem_of_lookup hy))
 ·exact Xu (x.above y c (PySem.mem_of_lookup h))
 ·have hi:i < vs.length:=by
   unfold lG at h2
   by_cases hi:i < vs.length
   ·exact hi
   ·rw [Xn (by simpa using hi)] at h2
    rw [Xa] at h2
    split at h2 <;> cases h2
  have ha:vs[i]?=some v:=by
   unfold lG at h2
   rw [Je (by simpa using hi),Qh] at h2
   cases e:vs[i]? with
   | none=>rw [e] at h2; cases h2
   | some a=>rw [e] at h2; cases h2; rfl
  obtain ⟨u,hu,rv⟩:=r.get ha
  have hp:ps[i]?=some y:=by
   rw [<- S.pre,List.getElem?_take_of_lt (by omega)]; exact h1
  have ndP:ps.Nodup:=by rw [<- S.pre]; exact S.nd.sublist (List.take_sublist _ _)
  refine ⟨u,rv,?_⟩
  rcases S.par y (Qj hp) with k | k
  ·exact .inl ⟨k,rV ndP hp hu k⟩
  ·obtain ⟨c,e⟩:=uZ (n:=s.heap.objs.size+1) k
   refine .inr ⟨.inl k,c,e,?_⟩
   have q:=x.cell y c e
   rw [rW ndP hp hu (by show scope.names.lookup y≠_; rw [k]; decide)] at q
   exact q
 ·exact e0.hok.fresh (Xu (x.above y c (PySem.mem_of_lookup h)))
 ·unfold lG
  show _=N.length
  rw [Qs,Qb,Jw]
  omega
theorem aBk {CX:CXT} {P:Program} {w:World} {K:PySem.W.Frag} {mg:Str->Option Value} {base:Heap} {k:Nat} {f:Addr} {name qual:Str} {params:Arguments} {body:List Stmt} {scope:Scope} {dV kV doc pm cdv ct oc:Value} {an od:Option Addr}
  {osl:Array (Option Value)} {N ps:List Str} {sp:Sp} (lk:K.lookup f=some ⟨oc,od,.func (PySem.W.fnOf name qual params body scope dV kV doc pm an cdv ct),osl⟩) (hcd:PySem.W.codeIn K cdv qual=true) (S:FnScope N ps scope)
  (len:∀ vs H Q E,sp vs H Q E->vs.length=ps.length)
  (hbody:∀ (A:Around) (outer:List Env) (s:Shared) (H:Hp) (vs:List V) (Q:VK) (E:XK),Room k (A.deeper (envOfC qual scope s.heap.objs.size f cdv))->sp vs H Q E ->
   ∃ t,PSs (lM CX P w K mg base N qual scope f cdv A outer s H E) body t/\t { nx:=fun _ H'=>Q .non H',rt:=Q } (lG N vs) H) :
  FnOk P w K mg base CX (k+1) f (PySem.W.fnOf name qual params body scope dV kV doc pm an cdv ct) ps sp:=by
 refine ⟨len,fun A outer s H args us vs Q E hr e0 hb r hsp=>?_⟩
 have hl:=len _ _ _ _ hsp
 have KX:K.In s.heap:=e0.mod.kin.keeps fun b o e=>(e0.bs b o e).1
 have lim:s.heap.NoLimit:=e0.mod.nolimit.keeps fun b o e=>(e0.bs b o e).1
 have hkind:∀ y∈ps.zip us,scope.names.lookup y.1=some .local∨(scope.names.lookup y.1=some .cell/\((cellsFrom (s.heap.objs.size+1) scope.names []).lookup y.1).isSome=true):=fun ⟨n,v⟩ hy=>by
  rcases S.par n (Yl hy).1 with q | q
  ·exact .inl q
  ·exact .inr ⟨q,PySem.W.cellsFrom_some _ _ _ (.inl q)⟩
 refine codeAny_call_function hr.depth (KX _ _ lk) rfl S.co S.gen rfl (PySem.W.codeRec_of KX hcd) (hb _ _ _ _ ?_)
 refine wpAny_newFunctionEnv_cells S.kind hkind fun env he s1 x=>?_
 subst he
 refine ⟨lim.keeps x.toInCall.keep,codeAny_func ?_⟩
 obtain ⟨t,ht,hq⟩:=hbody A outer s H vs Q E (hr.deeper _) hsp
 have I:Inv (lM CX P w K mg base N qual scope f cdv A outer s H E) [] (lG N vs) H s1:=aAD S hr.hd e0 hl r x
 refine wpAny_mono (ht [] s1 (lG N vs) H _ I hq) (fun fl s' hs=>?_) fun e s' hs=>hs
 have fin:∀ {σ':St} {H':Hp} {v:V} {u:Value},Inv (lM CX P w K mg base N qual scope f cdv A outer s H E) [] σ' H' s'->bJ v u->Q v H'->CE outer P w H s Q u s' :=
  fun {σ' H' v u} J rv q=>⟨v,H',J.os,J.bare,J.base,J.hok,rv,q⟩
 cases fl with
 | ret u =>
  obtain ⟨v,σ',H',J,rv,q⟩:=hs
  exact fin J rv q
 | next =>
  obtain ⟨σ',H',J,q⟩:=hs
  exact fin (v:=V.non) (u:=Value.none) J rfl q
 | brk =>
  obtain ⟨_,_,_,q⟩:=hs
  exact False.elim q
 | cont =>
  obtain ⟨_,_,_,q⟩:=hs
  exact False.elim q
section
variable {X:Cx} {x:Str} {p pos:Pos} {e:Expr} {es:List Expr} {t:TA} {id T:String} {r:List V->Hp->VK->Prop}
def tCB (r:List V->Hp->VK->Prop) (t:TA):TE:=fun σ H Q=>t σ H fun vs H1=>r vs H1 Q
theorem aT (hc:dP X (.builtin id) r) (hg:Gl X x) (hm:X.mg x=none) (hv:bootBuiltins x=some (.builtin id)) (ha:PA X (e::es) t) (hn:x ≠ "__name__" := by decide) (hdb:(x==("__debug__" : Str))=false:=by decide)
  (he:starEach (e::es) X.env=(false,eval e X.env)::starEach es X.env:=by rfl) (hpl:(backTo pos (starEach es X.env)).any (·.1)=false:=by rfl):PE X (.Call (.Name x p) (e::es) [] pos) (tCB r t):=by
 intro pins s σ H Q I h
 refine wpAny_Call_Name_kw (iB I hg hm hv ?_ hn hdb)
 refine PyProof.Rows.callWith_builtin1 (thn (ha pos pins s σ H _ I h) fun us s1 hx9=>?_) he hpl
 obtain ⟨vs,H1,I1,r1,q1⟩:=hx9
 exact hc pins s1 σ H1 vs us Q I1 r1 q1
theorem cA (hc:dP X (.type T) r) (hg:Gl X x) (hm:X.mg x=none) (hv:bootBuiltins x=some (.type T)) (ha:PA X (e::es) t) (hn:x ≠ "__name__" := by decide) (hdb:(x==("__debug__" : Str))=false:=by decide)
  (he:starEach (e::es) X.env=(false,eval e X.env)::starEach es X.env:=by rfl) (hpl:(backTo pos (starEach es X.env)).any (·.1)=false:=by rfl):PE X (.Call (.Name x p) (e::es) [] pos) (tCB r t):=by
 intro pins s σ H Q I h
 refine wpAny_Call_Name_kw (iB I hg hm hv ?_ hn hdb)
 refine PyProof.Rows.callWith_type1 (thn (ha pos pins s σ H _ I h) fun us s1 hx9=>?_) he hpl
 obtain ⟨vs,H1,I1,r1,q1⟩:=hx9
 exact hc pins s1 σ H1 vs us Q I1 r1 q1
end
end L2
namespace HT
open PySem PyProof.Rows
section
open PySem.SeqAt
open PySem.AutoSeq1 (wpAny_loadPart')
open PySem.MeetsSeq PySem.MeetsSeq2 PySem.MeetsSeq3
end
section
variable {prog:Program} {w:World} {A:Around} {E:Value->Shared->Prop} {s:Shared}
theorem cat_tup {t b:Addr} {vs ws:List Value} {Q:Value->Shared->Prop} (ht:IsTup s.heap t vs.toArray) (hb:IsTup s.heap b ws.toArray) (hv:vs≠[])
  (h1:ws = []->Q (.ref t) s) (h2:ws≠[]->Q (.ref s.heap.objs.size) { s with heap:=s.heap.push { cls:=.type "tuple",data:=.seq (vs++ws).toArray } })
  (hsz:vs.length+ws.length<=sizeLine):wpAny (model prog w) A (binaryOp .Add (.ref t) (.ref b)) Q E s:=by
 obtain ⟨⟨cls,dd,data,sl⟩,ho,hc,n,hd⟩:=id ht
 obtain ⟨⟨cls2,dd2,data2,sl2⟩,ho2,hc2,n2,hd2⟩:=id hb
 simp only at hc hd hc2 hd2
 subst hc hd hc2 hd2
 have e:vs.toArray++ws.toArray=(vs++ws).toArray:=by simp
 by_cases hw:ws = []
 ·exact concat_meets ⟨_,ho,rfl⟩ ⟨_,ho2,rfl⟩ noFill_tuple_add seq_tuple_add PySem.F.slot_tuple_add PySem.F.entry_tuple_add (PySem.F.args_tuple_add_2 _ _)
   (tuple_addW1 t b vs.toArray ws.toArray n n2 dd dd2 sl sl2 (by simpa using hv) (by simp [hw])) ⟨ho,ho2,h1 hw⟩
 ·refine concat_meets ⟨_,ho,rfl⟩ ⟨_,ho2,rfl⟩ noFill_tuple_add seq_tuple_add PySem.F.slot_tuple_add PySem.F.entry_tuple_add (PySem.F.args_tuple_add_2 _ _)
   (tuple_addW2 t b vs.toArray ws.toArray n n2 dd dd2 sl sl2 (by simpa using hv) (by simpa using hw) (by rw [Qg,Qg]; exact hsz)) ⟨ho,ho2,?_⟩
  rw [e]
  exact h2 hw
def sIx (n d:Nat):Option Int->Nat
 | none=>d
 | some v=>if v < 0 then (v+(n:Int)).toNat else min v.toNat n
theorem sIx_none (n d:Nat):sIx n d none=d:=rfl
theorem sIx_nat (n d k:Nat):sIx n d (some (k:Int))=min k n:=by
 show (if (k:Int) < 0 then ((k:Int)+(n:Int)).toNat else min (k:Int).toNat n)=min k n
 rw [if_neg (by omega),Jg]
theorem aEe (n d:Nat) (hd:d<=n) (o:Option Int):sIx n d o<=n:=by
 cases o with
 | none=>exact hd
 | some v =>
  show (if v < 0 then (v+(n:Int)).toNat else min v.toNat n)<=n
  by_cases hv:v < 0
  ·rw [if_pos hv]; omega
  ·rw [if_neg hv]; exact Nat.min_le_right _ _
theorem zJ (v:Int) (n d:Nat):(if v < 0 then max (v+(n:Int)) 0 else min v (n:Int))=((sIx n d (some v):Nat):Int):=by
 show (if v < 0 then max (v+(n:Int)) 0 else min v (n:Int))=(((if v < 0 then (v+(n:Int)).toNat else min v.toNat n):Nat):Int)
 by_cases hv:v < 0
 ·simp only [if_pos hv]; omega
 ·simp only [if_neg hv]; omega
theorem xN (lo hi:Option Int) (n:Nat):Builtin.Slice.sliceAdjust lo hi 1 (n:Int)=(((sIx n 0 lo:Nat):Int),((sIx n n hi:Nat):Int)):=by
 have h1:¬ ((1:Int) < 0):=by omega
 unfold Builtin.Slice.sliceAdjust
 simp only [h1,if_false]
 refine Prod.ext ?_ ?_
 ·cases lo with
  | none=>rfl
  | some v=>exact zJ v n 0
 ·cases hi with
  | none=>rfl
  | some v=>exact zJ v n n
theorem xO (i j:Nat):Builtin.Slice.slicePlaces (i:Int) (j:Int) 1=j - i:=by
 unfold Builtin.Slice.slicePlaces
 have h1:(1:Int) > 0:=by omega
 simp only [h1,if_true,Int.ediv_one]
 split <;> omega
theorem oZ {v:Value} {o:Option Int} {Q:Option Int->Shared->Prop} (p:IsPart v o) (h:Q o s):wpAny (model prog w) A (Builtin.Slice.slicePartIndex v) Q E s:=by
 cases p with
 | none=>exact slicePart_none h
 | int i t=>exact slicePart_int h
theorem sliceApplied_gen {sl:Addr} {vl vu:Value} {lo hi:Option Int} {n:Nat} {Q:Int×Int×Nat->Shared->Prop} (hs:s.heap.IsSliceOf sl vl vu .none) (pl:IsPart vl lo) (pu:IsPart vu hi)
  (h:Q (((sIx n 0 lo:Nat):Int),1,sIx n n hi - sIx n 0 lo) s):wpAny (model prog w) A (Builtin.Slice.sliceApplied (.ref sl) (pure (n:Int))) Q E s:=by
 obtain ⟨os,hos,hcs,hds⟩:=id hs
 unfold Builtin.Slice.sliceApplied Builtin.Slice.sliceFields
 refine wpAny_bind (wpAny_bind (wpAny_field hos hds (x:=vl) rfl (wpAny_bind (wpAny_field hos hds (x:=vu) rfl (wpAny_bind (wpAny_field hos hds (x:=.none) rfl (wpAny_pure ?_)))))))
 refine wpAny_bind (slicePart_none ?_)
 show wpAny _ _ (if ((1:Int)==0)=true then _ else _) _ _ s
 rw [if_neg (by decide)]
 refine wpAny_bind (oZ pl (wpAny_bind (oZ pu (wpAny_bind (wpAny_pure ?_)))))
 show wpAny _ _ (match Builtin.Slice.sliceAdjust lo hi 1 (n:Int) with | (lo,hi)=>pure (lo,(1:Int),Builtin.Slice.slicePlaces lo hi 1)) _ _ s
 rw [xN lo hi n]
 show wpAny _ _ (pure (((sIx n 0 lo:Nat):Int),(1:Int),Builtin.Slice.slicePlaces ((sIx n 0 lo:Nat):Int) ((sIx n n hi:Nat):Int) 1)) _ _ s
 rw [xO]
 exact wpAny_pure h
theorem pick_gen (xs:Array Value) (i k:Nat):((List.range k).filterMap fun (m:Nat)=>xs[((i:Int)+(m:Int)*1).toNat]?).toArray=((xs.toList.drop i).take k).toArray:=by
 have e:(fun (m:Nat)=>xs[((i:Int)+(m:Int)*1).toNat]?)=fun m=>xs[i+m]?:=by
  funext m
  have:((i:Int)+(m:Int)*1).toNat=i+m:=by omega
  rw [this]
 rw [e]
 have:=pick_run xs i k
 rw [Yx] at this
 have e2:((fun x=>xs[x]?) ∘ fun x=>i+x)=fun m=>xs[i+m]?:=rfl
 rw [e2] at this
 rw [this]
theorem getItem_tuple_cut {t sl:Addr} {items:Array Value} {vl vu:Value} {lo hi:Option Int} {Q:Value->Shared->Prop} (ht:IsTup s.heap t items) (hs:s.heap.IsSliceOf sl vl vu .none) (pl:IsPart vl lo) (pu:IsPart vu hi)
  (hw:¬ (sIx items.size 0 lo=0/\sIx items.size items.size hi=items.size))
  (h:Q (.ref s.heap.objs.size) { s with heap:=s.heap.push { cls:=.type "tuple",data:=.seq ((items.toList.drop (sIx items.size 0 lo)).take (sIx items.size items.size hi - sIx items.size 0 lo)).toArray } })
  (hsz:items.size<=sizeLine):wpAny (model prog w) A (getItem (.ref t) (.ref sl)) Q E s:=by
 have htake:sizeOk (.seq ((items.toList.drop (sIx items.size 0 lo)).take (sIx items.size items.size hi - sIx items.size 0 lo)).toArray):=by
  show ((items.toList.drop (sIx items.size 0 lo)).take (sIx items.size items.size hi - sIx items.size 0 lo)).toArray.size<=sizeLine
  rw [Qg,Jd,Jt,Array.length_toList]
  omega
 have hj:sIx items.size items.size hi<=items.size:=aEe _ _ (Qi _) hi
 obtain ⟨os,hos,hcs,hds⟩:=id hs
 have hTs:s.TypeIs (.ref sl) "slice" := ⟨os,hos,hcs⟩
 unfold getItem
 try with_reducible refine wpAny_holding ?_
 first | refine wpAny_bind (wpAny_pure ?_) | skip
 refine wpAny_bind (wpAny_sequenceKey ht.typeIs (by decide) ?_)
 refine wpAny_bind (wpAny_callSpecial?_slot (name:=Str.ofString "__getitem__") ht.typeIs PyProof.Rows.slot_tuple_getitem
  (wpAny_call_entry PyProof.Rows.slot_tuple_getitem ht.typeIs entry_tuple_getitem ?_ (args_tuple_getitem _ _)))
 show wpAny _ _ (Builtin.Tuple.tupleItemsOf (.ref t) >>= _) _ _ s
 refine wpAny_bind (tupleItemsOf_ ht ?_)
 refine wpAny_bind (wpAny_typeOf hTs ?_)
 rw [if_pos (by decide)]
 refine wpAny_bind (sliceApplied_gen hs pl pu ?_)
 have hno:¬ ((((sIx items.size 0 lo:Nat):Int)==0 && (1:Int)==1 && (sIx items.size items.size hi - sIx items.size 0 lo)==items.size)=true):=by
  intro q
  rw [Qv,Qv] at q
  have q1:((sIx items.size 0 lo:Nat):Int)=0:=eq_of_beq q.1.1
  have q2:sIx items.size items.size hi - sIx items.size 0 lo=items.size:=eq_of_beq q.2
  exact hw ⟨by omega,by omega⟩
 show wpAny _ _ (if (((sIx items.size 0 lo:Nat):Int)==0 && (1:Int)==1 && (sIx items.size items.size hi - sIx items.size 0 lo)==items.size)=true then _ else _) _ _ s
 rw [if_neg hno,pick_gen]
 first
  | exact wpAny_bind (m:=Builtin.Tuple.tupleExact _) (wpAny_newObj_type (wpAny_pure ⟨_,rfl,wpAny_pure h⟩) htake)
  | exact wpAny_bind (m:=Builtin.Tuple.tupleExact _) (wpAny_newObj_type (wpAny_bind (wpAny_pure (wpAny_pure ⟨_,rfl,wpAny_pure h⟩))) htake)
  | exact wpAny_bind (wpAny_bind (m:=Builtin.Tuple.tupleExact _) (wpAny_newObj_type (wpAny_pure (wpAny_pure ⟨_,rfl,wpAny_pure h⟩)) htake))
  | exact wpAny_bind (wpAny_bind (m:=Builtin.Tuple.tupleExact _) (wpAny_newObj_type (wpAny_pure ⟨_,rfl,wpAny_pure h⟩) htake))
end
end HT
namespace L2
open PySem PySem.Spec PyProof.Rows
abbrev TO:=St->Hp->(Option Int->Hp->Prop)->Prop
def PO (X:Cx) (e:Option Expr) (t:TO):Prop :=
 ∀ (pins:List (Addr×Obj)) (s:Shared) (σ:St) (H:Hp) (Q:Option Int->Hp->Prop),Inv X pins σ H s->t σ H Q ->
  wpAny (model X.prog X.w) X.A (evalPart e X.env) (fun u s'=>∃ o H',Inv X pins σ H' s'/\IsPart u o/\Q o H') X.xe s
def aCN:TO:=fun _ H Q=>Q none H
def aFb (t:TE):TO:=fun σ H Q=>t σ H fun x H1=>∃ i,x=.int i/\Q (some i) H1
theorem xP {ns:List Int}:∀ {us:List Value},aZ (ns.map V.int) us->IntsAre us ns:=by
 induction ns with
 | nil=>intro us r; rw [Ym] at r; cases r; exact .nil
 | cons n ns ih =>
  intro us r
  rw [Qu] at r
  cases r with
  | cons r1 r2 =>
   obtain ⟨t,e⟩:=r1
   subst e
   exact .cons n t (ih r2)
section
variable {X:Cx} {e:Expr} {te:TE} {lo hi:Option Expr} {tl th:TO} {pos p2:Pos}
theorem oH:PO X none aCN:=by
 intro pins s σ H Q I h
 rw [evalPart_none]
 exact wpAny_pure ⟨none,H,I,.none,h⟩
theorem kS (h:PE X e te):PO X (some e) (aFb te):=by
 intro pins s σ H Q I hw
 rw [evalPart_some]
 refine thn (h pins s σ H _ I hw) fun u s1 hx9=>?_
 obtain ⟨x,H1,I1,r1,q1⟩:=hx9
 obtain ⟨i,rfl,q⟩:=q1
 obtain ⟨t,rfl⟩:=r1
 exact ⟨some i,H1,I1,.int i t,q⟩
def SlR (X:Cx) (r:V->Option Int->Option Int->Hp->VK->Prop):Prop :=
 ∀ (pins:List (Addr×Obj)) (s:Shared) (σ:St) (H:Hp) (x:V) (v vl vu:Value) (lo hi:Option Int) (sl:Addr) (Q:VK),Inv X pins σ H s->bJ x v->s.heap.IsSliceOf sl vl vu .none->IsPart vl lo->IsPart vu hi->r x lo hi H Q ->
  ∃ T id,typeLookup (.type T) "__getitem__" = pure (some (.builtin id))/\s.TypeIs v T/\wpAny (model X.prog X.w) X.A (getItem v (.ref sl)) (EP X pins σ Q) X.xe s
theorem SlR.or {r r':V->Option Int->Option Int->Hp->VK->Prop} (h:SlR X r) (h':SlR X r'):SlR X (fun x lo hi H Q=>r x lo hi H Q∨r' x lo hi H Q):=by
 intro pins s σ H x v vl vu lo hi sl Q I rx hs pl pu q
 rcases q with q | q
 ·exact h pins s σ H x v vl vu lo hi sl Q I rx hs pl pu q
 ·exact h' pins s σ H x v vl vu lo hi sl Q I rx hs pl pu q
def tSl (r:V->Option Int->Option Int->Hp->VK->Prop) (te:TE) (tl th:TO):TE:=fun σ H Q=>te σ H fun x H1=>tl σ H1 fun l H2=>th σ H2 fun u H3=>r x l u H3 Q
theorem jR {r:V->Option Int->Option Int->Hp->VK->Prop} (hr:SlR X r) (he:PE X e te) (hl:PO X lo tl) (hu:PO X hi th):PE X (.Subscript e (.Slice lo hi none p2) pos) (tSl r te tl th):=by
 intro pins s σ H Q I h
 refine Subscript_ (thn (he pins s σ H _ I h) fun v s1 hx9=>?_)
 obtain ⟨x,H1,I1,r1,q1⟩:=hx9
 refine wpAny_Slice (thn (hl pins s1 σ H1 _ I1 q1) fun vl s2 ⟨l,H2,I2,pl,q2⟩=>thn (hu pins s2 σ H2 _ I2 q2) fun vu s3 hx9=>?_)
 obtain ⟨u,H3,I3,pu,q3⟩:=hx9
 rw [evalPart_none]
 refine wpAny_pure ?_
 have I4:Inv X pins σ H3 { s3 with heap:=s3.heap.push { cls:=.type "slice",data:=.fields #[vl,vu,.none] } }:=I3.kept (t':=s3.toks) fun b ob q=>Qa _ q
 obtain ⟨T,id,hT,ht,hg⟩:=hr pins { s3 with heap:=s3.heap.push { cls:=.type "slice",data:=.fields #[vl,vu,.none] } } σ H3 x v vl vu l u s3.heap.objs.size Q I4 r1 (Heap.IsSliceOf.new ..) pl pu q3
 show wpAny (model X.prog X.w) X.A (subscriptTail e (.Slice lo hi none p2) v (.ref s3.heap.objs.size)) (EP X pins σ Q) X.xe { s3 with heap:=s3.heap.push { cls:=.type "slice",data:=.fields #[vl,vu,.none] } }
 exact tail_any (ops:=[.ref s3.heap.objs.size,v]) ht hT hg (by with_unfolding_all rfl)
def jS (xs:List V) (lo hi:Option Int):List V:=(xs.drop (HT.sIx xs.length 0 lo)).take (HT.sIx xs.length xs.length hi - HT.sIx xs.length 0 lo)
theorem vA (xs:List V) (lo hi:Option Int):(jS xs lo hi).length<=xs.length:=by
 unfold jS
 rw [Jd,Jt]
 exact Qx (Nat.min_le_right _ _) (Nat.sub_le _ _)
def aFM (K:PySem.W.Frag):V->Option Int->Option Int->Hp->VK->Prop:=fun x lo hi H Q=>∃ a xs,x=.ref a/\SqT K H a xs /\
 ¬ (HT.sIx xs.length 0 lo=0/\HT.sIx xs.length xs.length hi=xs.length)/\∀ p,H p=none->Q (.ref p) (upd H p (.tup (jS xs lo hi)))
theorem aEf:SlR X (aFM X.K):=by
 intro pins s σ H x v vl vu lo hi sl Q I rx hs pl pu h
 obtain ⟨a,xs,rfl,hx,hw,q⟩:=h
 cases rx
 obtain ⟨its,r,ht,hz⟩:=I.tuple hx
 have hlen:its.toArray.size=xs.length:=by rw [Qg]; exact r.length.symm
 refine ⟨"tuple",_,PyProof.Rows.slot_tuple_getitem.lookup,ht.typeIs,?_⟩
 refine HT.getItem_tuple_cut ht hs pl pu (by rw [hlen]; exact hw) ?_ (by rw [hlen]; exact hz)
 rw [hlen]
 refine ⟨.ref s.heap.objs.size,_,I.laid (t':=s.toks) (o:=.tup (jS xs lo hi)) (fun b ob q=>Qa _ q) (Qi _) ?_,rfl,q _ (I.hok.fresh (Qi _))⟩
 exact ⟨Qx (vA xs lo hi) hz,_,0,(r.drop (HT.sIx xs.length 0 lo)).take (HT.sIx xs.length xs.length hi - HT.sIx xs.length 0 lo),Qe _ rfl⟩
def aFc (K:PySem.W.Frag):R2:=fun x y H Q=>∃ a b xs ys,x=.ref a/\y=.ref b/\SqT K H a xs/\SqT K H b ys/\xs≠[]/\xs.length+ys.length<=sizeLine /\
 (ys = []->Q (.ref a) H)/\(ys≠[]->∀ p,H p=none->Q (.ref p) (upd H p (.tup (xs++ys))))
theorem aZ.nil_iff {xs:List V} {us:List Value} (r:aZ xs us):us = []↔xs = []:=by
 cases r with
 | nil=>simp
 | cons _ _=>simp
theorem aCO:OpR X (binaryOp .Add) (aFc X.K):=by
 intro pins s σ H x y v u Q I rx ry h
 obtain ⟨a,b,xs,ys,rfl,rfl,ha,hb,hx,hz,q1,q2⟩:=h
 cases rx
 cases ry
 obtain ⟨its,r1,p1,_⟩:=I.tuple ha
 obtain ⟨its2,r2,p2,_⟩:=I.tuple hb
 refine HT.cat_tup p1 p2 (fun z=>hx (r1.nil_iff.mp z)) (fun z=>⟨.ref a,H,I,rfl,q1 (r2.nil_iff.mp z)⟩) (fun z=>?_) (by rw [<- r1.length,<- r2.length]; exact hz)
 refine ⟨.ref s.heap.objs.size,_,I.laid (t':=s.toks) (o:=.tup (xs++ys)) (fun b ob q=>Qa _ q) (Qi _) ?_,rfl,q2 (fun w=>z (r2.nil_iff.mpr w)) _ (I.hok.fresh (Qi _))⟩
 exact ⟨by rw [Qs]; exact hz,_,0,r1.append r2,Qe _ rfl⟩
end
def ixN (n:Nat) (i:Int):Option Nat:=if 0<=i then (if i < n then some i.toNat else none) else if -(n:Int)<=i then some (i+n).toNat else none
def atI {α:Type} (xs:List α) (i:Int):Option α:=(ixN xs.length i).bind fun j=>xs[j]?
theorem zK {n:Nat} {i:Int} {j:Nat} (h:ixN n i=some j):seqIndex? i n=some j/\j < n/\-(n:Int)<=i/\i < n:=by
 unfold ixN at h
 by_cases h0:0<=i
 ·rw [if_pos h0] at h
  by_cases h1:i < n
  ·rw [if_pos h1] at h
   have e:i.toNat=j:=Option.some.inj h
   exact ⟨by rw [seqIndex_of h0 h1,e],by omega,by omega,h1⟩
  ·rw [if_neg h1] at h; cases h
 ·rw [if_neg h0] at h
  by_cases h1:-(n:Int)<=i
  ·rw [if_pos h1] at h
   have e:(i+n).toNat=j:=Option.some.inj h
   exact ⟨by rw [seqIndex_neg (by omega) h1,e],by omega,h1,by omega⟩
  ·rw [if_neg h1] at h; cases h
theorem zL {α:Type} {xs:List α} {i:Int} {v:α} (h:atI xs i=some v):∃ j,seqIndex? i xs.length=some j/\xs[j]?=some v/\j < xs.length/\-(xs.length:Int)<=i/\i < xs.length:=by
 unfold atI at h
 cases e:ixN xs.length i with
 | none=>rw [e] at h; cases h
 | some j =>
  rw [e] at h
  obtain ⟨h1,h2,h3,h4⟩:=zK e
  exact ⟨j,h1,h,h2,h3,h4⟩
theorem eZ {α:Type} {xs:List α} {j:Nat} {v:α} (h:xs[j]?=some v):atI xs (j:Int)=some v:=by
 have hj:j < xs.length:=(Qc.mp h).1
 have e:ixN xs.length (j:Int)=some j:=by
  unfold ixN
  rw [if_pos (by omega),if_pos (by omega)]; simp
 unfold atI; rw [e]; exact h
def aCP (b:Expr):Prop:=∀ o i,subscripted b false o i=operate [o,i] (getItem o i)
def IxR (X:Cx) (r:R2):Prop :=
 ∀ (value slice:Expr) (pins:List (Addr×Obj)) (s:Shared) (σ:St) (H:Hp) (x y:V) (v u:Value) (Q:VK),Inv X pins σ H s->bJ x v->bJ y u->r x y H Q ->
  subscripted slice false v u=operate [v,u] (getItem v u)->wpAny (model X.prog X.w) X.A (subscriptTail value slice v u) (EP X pins σ Q) X.xe s
def MtR (X:Cx) (id:String) (r:V->List V->Hp->VK->Prop):Prop :=
 ∀ (pins:List (Addr×Obj)) (s:Shared) (σ:St) (H:Hp) (x:V) (xs:List V) (v:Value) (us:List Value) (Q:VK),Inv X pins σ H s->bJ x v->aZ xs us->r x xs H Q ->
  wpAny (model X.prog X.w) X.A (call (.builtin id) (v::us)) (EP X pins σ Q) X.xe s
section
variable {X:Cx} {a b:Expr} {ta tb:TE} {pos:Pos}
theorem IxR.or {r r':R2} (h:IxR X r) (h':IxR X r'):IxR X (fun x y H Q=>r x y H Q∨r' x y H Q):=by
 intro value slice pins s σ H x y v u Q I rx ry q hs
 rcases q with q | q
 ·exact h value slice pins s σ H x y v u Q I rx ry q hs
 ·exact h' value slice pins s σ H x y v u Q I rx ry q hs
theorem MtR.or {id:String} {r r':V->List V->Hp->VK->Prop} (h:MtR X id r) (h':MtR X id r'):MtR X id (fun x xs H Q=>r x xs H Q∨r' x xs H Q):=by
 intro pins s σ H x xs v us Q I rx rs q
 rcases q with q | q
 ·exact h pins s σ H x xs v us Q I rx rs q
 ·exact h' pins s σ H x xs v us Q I rx rs q
theorem bO {r:R2} (hr:IxR X r) (ha:PE X a ta) (hb:PE X b tb) (hs:aCP b):PE X (.Subscript a b pos) (tOp r ta tb):=by
 intro pins s σ H Q I h
 exact Subscript_ (aD9 ha hb I h fun v u s2 x y H2 I2 rx ry q=>hr a b pins s2 σ H2 x y v u Q I2 rx ry q (hs _ _))
def aFN (K:PySem.W.Frag):R2:=fun x y H Q=>∃ p xs i v,x=.ref p/\y=.int i/\SqL K H p xs/\atI xs i=some v/\Q v H
def aBl (K:PySem.W.Frag):R2:=fun x y H Q=>∃ p xs i v,x=.ref p/\y=.int i/\SqT K H p xs/\atI xs i=some v/\Q v H
theorem cB:IxR X (aFN X.K):=by
 intro value slice pins s σ H x y v u Q I rx ry h hs
 obtain ⟨p,xs,i,z,rfl,rfl,hq,he,q⟩:=h
 cases rx
 obtain ⟨t,rfl⟩:=ry
 obtain ⟨its,r,pl,hz⟩:=I.list hq
 obtain ⟨j,h1,h2,h3,h4,h5⟩:=zL he
 obtain ⟨w,ew,rw'⟩:=r.get h2
 have hl:=r.length
 have hn:=oY
 have fin:EP X pins σ Q w s:=⟨z,H,I,rw',q⟩
 by_cases h0:0<=i
 ·have hj:i.toNat=j:=by
   rw [seqIndex_of h0 h5] at h1
   exact Option.some.inj h1
  exact item_listR pl.isList h0 (by omega) (by rw [hj]; simpa using ew) fin hs
 ·have hj:(i+(its.toArray.size:Int)).toNat=j:=by
   rw [seqIndex_neg (by omega) h4] at h1
   rw [Qg,<- hl]
   exact Option.some.inj h1
  exact subscriptTail_builtinR (x:=w) pl.isList.typeIs slot_list_getitem.lookup
   (wpAny_getItem_list_neg (Q:=fun r s'=>r=w/\EP X pins σ Q r s') pl.isList (by omega) (by rw [Qg] <;> omega) (by omega) (by rw [hj]; simpa using ew) ⟨rfl,fin⟩) hs
theorem eA:IxR X (aBl X.K):=by
 intro value slice pins s σ H x y v u Q I rx ry h hs
 obtain ⟨p,xs,i,z,rfl,rfl,hq,he,q⟩:=h
 cases rx
 obtain ⟨t,rfl⟩:=ry
 obtain ⟨its,r,pl,hz⟩:=I.tuple hq
 obtain ⟨j,h1,h2,h3,h4,h5⟩:=zL he
 obtain ⟨w,ew,rw'⟩:=r.get h2
 have hl:=r.length
 have hn:=oY
 have fin:EP X pins σ Q w s:=⟨z,H,I,rw',q⟩
 exact subscriptTail_builtinR (x:=w) pl.typeIs slot_tuple_getitem.lookup
  (getItem_tuple (j:=j) (Q:=fun r s'=>r=w/\EP X pins σ Q r s') pl (by omega) (by omega) (by rw [Qg,<- hl]; exact h1) (by simpa using ew) ⟨rfl,fin⟩) hs
theorem xQ (its:List Value) (n j:Nat) (u:Value):Obj.mapSeq (·.setIfInBounds j u) { cls:=.type "list",data:=.seq its.toArray n }={ cls:=.type "list",data:=.seq (its.set j u).toArray n }:=by
 simp [Obj.mapSeq]
theorem Inv.lst {pins:List (Addr×Obj)} {σ:St} {H:Hp} {s:Shared} {p:Addr} {xs:List V} (I:Inv X pins σ H s) (h:H p=some (.lst xs)) :
  ∃ (its:List Value) (n:Nat),aZ xs its/\s.heap.get? p=some { cls:=.type "list",data:=.seq its.toArray n }/\xs.length<=sizeLine:=by
 obtain ⟨z,its,n,r,e⟩:=I.hok p _ h
 exact ⟨its,n,r,e,z⟩
theorem Inv.lstUpd {pins:List (Addr×Obj)} {σ:St} {H:Hp} {s:Shared} {p:Addr} {xs ys:List V} {its its':List Value} {n n':Nat} {f:Obj->Obj} (I:Inv X pins σ H s) (h:H p=some (.lst xs))
  (ho:s.heap.get? p=some { cls:=.type "list",data:=.seq its.toArray n }) (hf:f { cls:=.type "list",data:=.seq its.toArray n }={ cls:=.type "list",data:=.seq its'.toArray n' }) (r:aZ ys its') (hz:ys.length<=sizeLine) (t:Nat) :
  Inv X pins σ (upd H p (.lst ys)) { s with heap:=s.heap.update p f,toks:=t }:=by
 have e:(s.heap.update p f).get? p=some { cls:=.type "list",data:=.seq its'.toArray n' }:=by
  rw [Jx f ho (by rw [hf] <;> rfl),hf]
 refine I.write (x:=p) (e:=p) (by rw [h]; trivial) (.inl rfl) (fun b u hb q=>(Qw _ _ (Ne.symm hb)).trans q) ⟨_,e⟩ ?_
 exact ⟨hz,its',n',r,e⟩
def aFd:V->V->V->Hp->(Hp->Prop)->Prop:=fun o i v H Q=>∃ p xs k j,o=.ref p/\i=.int k/\H p=some (.lst xs)/\ixN xs.length k=some j/\Q (upd H p (.lst (xs.set j v)))
theorem jT:aD6 X aFd:=by
 intro pins s σ H o i v ov iv u Q I ro ri rv h
 obtain ⟨p,xs,k,j,rfl,rfl,hp,hj,q⟩:=h
 cases ro
 obtain ⟨t,rfl⟩:=ri
 obtain ⟨its,n,r,ho,hz⟩:=I.lst hp
 obtain ⟨h1,h2,h3,h4⟩:=zK hj
 have hl:=r.length
 have hn:=oY
 have I':Inv X pins σ (upd H p (.lst (xs.set j v))) { s with heap:=s.heap.update p (Obj.mapSeq (·.setIfInBounds j u)) } :=
  I.lstUpd hp ho (xQ its n j u) (r.set rv j) (by rw [Zh]; exact hz) s.toks
 by_cases h0:0<=k
 ·have hk:k.toNat=j:=by
   rw [seqIndex_of h0 h4] at h1
   exact Option.some.inj h1
  exact PySem.W.ki_setAt ho h0 (by omega) (by rw [Qg,<- hl]; exact h4) (by rw [hk]; exact ⟨_,I',q⟩)
 ·have hk:(k+(its.toArray.size:Int)).toNat=j:=by
   rw [seqIndex_neg (by omega) h3] at h1
   rw [Qg,<- hl]
   exact Option.some.inj h1
  exact PySem.W.ki_setBack ho (by omega) (by rw [Qg,<- hl]; exact h3) (by omega) (by rw [hk]; exact ⟨_,I',q⟩)
def mF:V->Bool
 | .non=>true
 | .bl _=>true
 | .int _=>true
 | .str _=>true
 | _=>false
def eqV:V->V->Bool
 | .non,.non=>true
 | .bl a,.bl b=>a==b
 | .bl a,.int b=>(if a then 1 else 0)==b
 | .int a,.bl b=>a==(if b then 1 else 0)
 | .int a,.int b=>a==b
 | .str a,.str b=>a==b
 | _,_=>false
theorem aEg {A:Around} {s:Shared} {y x:V} {u v:Value} (ry:bJ y u) (rx:bJ x v) (fy:mF y=true) (fx:mF x=true):SeqAt.EqAt A s u v (eqV y x):=by
 cases y with
 | non =>
  cases ry
  cases x with
  | non=>cases rx; exact SeqAt.EqAt.same _
  | bl b=>cases rx; exact SeqAt.EqAt.none_bool b
  | int b=>obtain ⟨t,rfl⟩:=rx; exact SeqAt.EqAt.none_int b t
  | str b=>obtain ⟨t,rfl⟩:=rx; exact SeqAt.EqAt.none_str b t
  | _=>exact absurd (show false=true from fx) Qq
 | bl a =>
  cases ry
  cases x with
  | non=>cases rx; exact SeqAt.EqAt.bool_none a
  | bl b=>cases rx; exact SeqAt.EqAt.bool_bool a b
  | int b=>obtain ⟨t,rfl⟩:=rx; exact SeqAt.EqAt.bool_int a b t
  | str b=>obtain ⟨t,rfl⟩:=rx; exact SeqAt.EqAt.bool_str a b t
  | _=>exact absurd (show false=true from fx) Qq
 | int a =>
  obtain ⟨t',rfl⟩:=ry
  cases x with
  | non=>cases rx; exact SeqAt.EqAt.int_none a t'
  | bl b=>cases rx; exact SeqAt.EqAt.int_bool a t' b
  | int b=>obtain ⟨t,rfl⟩:=rx; exact SeqAt.EqAt.int_int a t' b t
  | str b=>obtain ⟨t,rfl⟩:=rx; exact SeqAt.EqAt.int_str a t' b t
  | _=>exact absurd (show false=true from fx) Qq
 | str a =>
  obtain ⟨t',rfl⟩:=ry
  cases x with
  | non=>cases rx; exact SeqAt.EqAt.str_none a t'
  | bl b=>cases rx; exact SeqAt.EqAt.str_bool a t' b
  | int b=>obtain ⟨t,rfl⟩:=rx; exact SeqAt.EqAt.str_int a t' b t
  | str b=>obtain ⟨t,rfl⟩:=rx; exact SeqAt.EqAt.str_str a t' b t
  | _=>exact absurd (show false=true from fx) Qq
 | _=>exact absurd (show false=true from fy) Qq
def eqU (x:V) (u:Value):Bool:=match u with
 | .none=>eqV .non x
 | .bool b=>eqV (.bl b) x
 | .int i _=>eqV (.int i) x
 | .str z _=>eqV (.str z) x
 | _=>false
theorem aBm {x y:V} {u:Value} (r:bJ y u) (f:mF y=true):eqU x u=eqV y x:=by
 cases y with
 | non=>cases r; rfl
 | bl b=>cases r; rfl
 | int i=>obtain ⟨t,rfl⟩:=r; rfl
 | str z=>obtain ⟨t,rfl⟩:=r; rfl
 | _=>exact absurd (show false=true from f) Qq
theorem zM {x:V}:∀ {xs:List V} {us:List Value},aZ xs us->xs.all mF=true->us.any (eqU x)=xs.any fun y=>eqV y x
 := by
 intro xs us h
 induction h with
 | nil=>intro _; rfl
 | cons r t ih =>
  intro f
  rw [List.all_cons,Qv] at f
  rw [Zp,Zp,aBm r f.1,ih f.2]
theorem pA {A:Around} {s:Shared} {x:V} {v:Value} (rx:bJ x v) (fx:mF x=true):∀ {xs:List V} {us:List Value},aZ xs us->xs.all mF=true->∀ u∈us,SeqAt.EqAt A s u v (eqU x u)
 | _,_,.nil,_=>fun u hu=>by cases hu
 | y::xs,u::us,.cons r t,f=>fun u' hu=>by
  rw [List.all_cons,Qv] at f
  rcases Qk.mp hu with rfl | hu
  ·rw [aBm r f.1]; exact aEg r rx f.1 fx
  ·exact pA rx fx t f.2 u' hu
def inV (x:V) (xs:List V):Bool:=xs.any fun y=>eqV y x
def rIn (K:PySem.W.Frag) (neg:Bool):R2:=fun x y H Q=>∃ p xs,y=.ref p/\(SqL K H p xs∨SqT K H p xs)/\mF x=true/\xs.all mF=true/\Q (.bl (if neg then !inV x xs else inV x xs)) H
theorem mX:OpR X (compareOp .In) (rIn X.K false):=by
 intro pins s σ H x y v u Q I rx ry h
 obtain ⟨p,xs,rfl,hq,fx,fs,q⟩:=h
 cases ry
 rcases hq with hq | hq
 ·obtain ⟨its,r,pl,hz⟩:=I.list hq
  refine SeqAt.in_listAt (eqU x) pl.isList (fun w hw=>pA rx fx r fs w (by simpa using hw)) ⟨.bl _,H,I,rfl,?_⟩
  rw [show its.toArray.any (eqU x)=its.any (eqU x) by simp,zM r fs]
  exact q
 ·obtain ⟨its,r,pl,hz⟩:=I.tuple hq
  refine SeqAt.in_tupleAt (eqU x) pl (fun w hw=>pA rx fx r fs w (by simpa using hw)) ⟨.bl _,H,I,rfl,?_⟩
  rw [show its.toArray.any (eqU x)=its.any (eqU x) by simp,zM r fs]
  exact q
theorem bC:dP X (.builtin "len") (fun xs H Q=>∃ p ys,xs = [.ref p]/\(SqL X.K H p ys∨SqT X.K H p ys)/\Q (.int ys.length) H):=by
 intro pins s σ H xs us Q I r h
 obtain ⟨p,ys,rfl,hq,q⟩:=h
 obtain ⟨u,rfl,rx⟩:=gG r
 cases rx
 have hn:=oY
 rcases hq with hq | hq
 ·obtain ⟨its,r',pl,hz⟩:=I.list hq
  have hlen:=r'.length
  exact Calls.call_len_list pl.isList (by simp only [Qg] <;> omega) ⟨.int ys.length,H,I.tok _,⟨s.toks+1,by rw [Qg,hlen]⟩,q⟩
 ·obtain ⟨its,r',pl,hz⟩:=I.tuple hq
  have hlen:=r'.length
  exact len_tuple pl (by simp only [Qg] <;> omega) ⟨.int ys.length,H,I.tok _,⟨s.toks+1,by rw [Qg,hlen]⟩,q⟩
theorem dP.or {f:Value} {r r':List V->Hp->VK->Prop} (h:dP X f r) (h':dP X f r'):dP X f (fun xs H Q=>r xs H Q∨r' xs H Q):=by
 intro pins s σ H xs us Q I rs q
 rcases q with q | q
 ·exact h pins s σ H xs us Q I rs q
 ·exact h' pins s σ H xs us Q I rs q
theorem tK:dP X (.type "list") (fun xs H Q=>∃ p ys,xs = [.ref p]/\(SqL X.K H p ys∨SqT X.K H p ys)/\∀ l,H l=none->Q (.ref l) (upd H l (.lst ys))):=by
 intro pins s σ H xs us Q I r h
 obtain ⟨p,ys,rfl,hq,q⟩:=h
 obtain ⟨u,rfl,rx⟩:=gG r
 cases rx
 have fin:∀ (its:List Value),aZ ys its->ys.length<=sizeLine->∀ (h':Heap) (c':Nat),(∀ b o',s.heap.get? b=some o'->h'.get? b=some o') ->
   h'.get? s.heap.objs.size=some { cls:=.type "list",dict:=none,data:=.seq its.toArray c',slots:=#[] }->EP X pins σ Q (.ref s.heap.objs.size) { s with heap:=h' }:=fun its r' hz h' c' kp e =>
  ⟨.ref s.heap.objs.size,_,I.laid (t':=s.toks) kp (Qi _) (show bL X.prog X.w _ h' _ (.lst ys) from ⟨hz,its,c',r',e⟩),rfl,q _ (I.hok.fresh (Qi _))⟩
 rcases hq with hq | hq
 ·obtain ⟨its,r',pl,hz⟩:=I.list hq
  have hlen:=r'.length
  obtain ⟨o,ho,hc,n,hd⟩:=pl.isList
  exact call_list_seq p (.inl rfl) ho hc hd (fun h' c' kp e=>fin its r' hz h' c' kp e) (by simp only [Qg] <;> omega)
 ·obtain ⟨its,r',pl,hz⟩:=I.tuple hq
  have hlen:=r'.length
  obtain ⟨o,ho,hc,n,hd⟩:=pl
  exact call_list_seq p (.inr rfl) ho hc hd (fun h' c' kp e=>fin its r' hz h' c' kp e) (by simp only [Qg] <;> omega)
theorem cI:dP X (.type "tuple") (fun xs H Q=>∃ p ys,xs = [.ref p]/\((SqL X.K H p ys/\∀ l,H l=none->Q (.ref l) (upd H l (.tup ys)))∨(SqT X.K H p ys/\Q (.ref p) H))):=by
 intro pins s σ H xs us Q I r h
 obtain ⟨p,ys,rfl,h⟩:=h
 obtain ⟨u,rfl,rx⟩:=gG r
 cases rx
 rcases h with ⟨hq,q⟩ | ⟨hq,q⟩
 ·obtain ⟨its,r',pl,hz⟩:=I.list hq
  have hlen:=r'.length
  refine call_tuple_list pl.isList (fun h' kp=>?_) (by simp only [Qg] <;> omega)
  have I1:Inv X pins σ H { s with heap:=h' }:=I.kept (t':=s.toks) kp
  have I2:Inv X pins σ (upd H h'.objs.size (.tup ys)) { s with heap:=h'.push { cls:=.type "tuple",data:=.seq its.toArray } } :=
   I1.laid (t':=s.toks) (fun b o e=>Qa _ e) (Qi _) (show bL X.prog X.w _ _ _ (.tup ys) from ⟨hz,its,0,r',Qe _ rfl⟩)
  exact ⟨.ref h'.objs.size,_,I2,rfl,q _ (I1.hok.fresh (Qi _))⟩
 ·obtain ⟨its,r',pl,hz⟩:=I.tuple hq
  exact call_tuple_same pl ⟨.ref p,H,I,rfl,q⟩
def tyV (K:PySem.W.Frag) (T:String) (x:V) (H:Hp):Prop:=match x with
 | .str _=>T = "str"
 | .int _=>T = "int"
 | .ref p => (T = "list" /\ ∃ xs, SqL K H p xs) ∨ (T = "tuple" /\ ∃ xs, SqT K H p xs) ∨
     (T = "dict" /\ ((∃ kvs,H p=some (.dK kvs))∨∃ kvs,H p=some (.dT kvs)))∨(T = "set" /\ ∃ S n,H p=some (.set S n))
 | _=>False
theorem aEh {pins:List (Addr×Obj)} {σ:St} {H:Hp} {s:Shared} {T:String} {x:V} {v:Value} (I:Inv X pins σ H s) (r:bJ x v) (ty:tyV X.K T x H) :
  s.TypeIs v T/\∀ a,v=.ref a->∃ ob,s.heap.get? a=some ob/\ob.dict=none:=by
 cases x with
 | str z =>
  obtain ⟨t,rfl⟩:=r
  cases (show T = "str" from ty)
  exact ⟨typeIs_str s z t,fun _ e=>nomatch e⟩
 | int i =>
  obtain ⟨t,rfl⟩:=r
  cases (show T = "int" from ty)
  exact ⟨typeIs_int s i t,fun _ e=>nomatch e⟩
 | ref p =>
  cases r
  rcases ty with ⟨rfl,xs,hq⟩ | ⟨rfl,xs,hq⟩ | ⟨rfl,hk⟩ | ⟨rfl,S,n,hk⟩
  ·obtain ⟨its,_,pl,_⟩:=I.list hq
   refine ⟨pl.isList.typeIs,fun a e=>?_⟩
   cases e
   obtain ⟨o,n,e,c,hd,_⟩:=pl
   exact ⟨o,e,hd⟩
  ·obtain ⟨o,e,hc,hd⟩:∃ o,s.heap.get? p=some o/\o.cls=.type "tuple" /\ o.dict=none:=by
    rcases hq with hq | ⟨o,_,_,hk,hc,hd,_⟩
    ·obtain ⟨_,its,n,_,e⟩:=hq.ok I.hok
     exact ⟨_,e,rfl,rfl⟩
    ·exact ⟨o,I.kIn p o hk,hc,hd⟩
   refine ⟨⟨o,e,hc⟩,fun a e2=>?_⟩
   cases e2
   exact ⟨o,e,hd⟩
  ·have z:∃ o,s.heap.get? p=some o/\o.ExactDict:=by
    rcases hk with ⟨kvs,hk⟩ | ⟨kvs,hk⟩
    ·obtain ⟨_,_,_,_,o,_,_,e,ex,_⟩:=I.hok p _ hk
     exact ⟨o,e,ex⟩
    ·obtain ⟨_,_,_,_,o,_,_,e,ex,_⟩:=I.hok p _ hk
     exact ⟨o,e,ex⟩
   obtain ⟨o,e,ex⟩:=z
   refine ⟨⟨o,e,ex.1⟩,fun a e2=>?_⟩
   cases e2
   exact ⟨o,e,ex.2.1⟩
  ·obtain ⟨o,_,_,_,e,ex,_⟩:=I.hok p _ hk
   refine ⟨⟨o,e,ex.1⟩,fun a e2=>?_⟩
   cases e2
   exact ⟨o,e,ex.2.1⟩
 | _=>exact False.elim ty
def tBM (K:PySem.W.Frag) (T:String) (r:V->List V->Hp->VK->Prop) (to:TE) (t:TA):TE:=fun σ H Q=>to σ H fun x H1=>tyV K T x H1/\t σ H1 fun xs H2=>r x xs H2 Q
variable {o e:Expr} {es:List Expr} {to:TE} {t:TA} {name:Str} {apos cpos:Pos} {T id:String} {r:V->List V->Hp->VK->Prop}
theorem nU (pa:PlainAttrs T) (slot:Slot T name id) (hty:typeOf (.builtin id)=pure (.type "method_descriptor")) (hm:MtR X id r) (ho:PE X o to) (ha:PA X (e::es) t)
  (hbase:attributeBase o name X.env (eval o X.env)=eval o X.env:=by rfl)
  (hfew:((backTo cpos (starEach (e::es) X.env)).all (fun x=>!x.1) && (backToKw cpos (keywordEach [] X.env)).all (fun x=>x.1.isSome)
   && decide ((e::es).length+([]:List Keyword).length+(if ([]:List Keyword).isEmpty then 0 else 1) < 30))=true:=by rfl)
  (hline:(apos.endLine==cpos.line)=true:=by rfl) (hs:starEach (e::es) X.env=(false,eval e X.env)::starEach es X.env:=by rfl) (hplain:(backTo cpos (starEach es X.env)).any (·.1)=false:=by rfl) :
  PE X (.Call (.Attribute o name apos) (e::es) [] cpos) (tBM X.K T r to t):=by
 intro pins s σ H Q I h
 refine wpAny_Call_method_late hbase hfew hline rfl (thn (ho pins s σ H _ I h) fun v s1 hx9=>?_)
 obtain ⟨x,H1,I1,r1,ty,q1⟩:=hx9
 obtain ⟨h1,h2⟩:=aEh I1 r1 ty
 refine ⟨T,id,pa,slot,hty,h1,h2,?_⟩
 have hA:=ha cpos pins s1 σ H1 _ I1 q1
 rw [hs] at hA ⊢
 refine Calls.callWith_builtin (by show (false || (backTo cpos (starEach es X.env)).any (·.1))=false; rw [hplain] <;> rfl) (Calls.evalArgs_plain ?_)
 refine thn hA fun us s2 hx9=>?_
 obtain ⟨vs,H2,I2,r2,q2⟩:=hx9
 exact hm pins s2 σ H2 x vs v us Q I2 r1 r2 q2
/- xs.append(e),list.index on a module's tuple .. are MtR facts of 06m -/
end
def MtM (X:Cx) (id:String) (r:V->List V->Hp->VK->Prop):Prop :=
 ∀ (pins:List (Addr×Obj)) (s:Shared) (σ:St) (H:Hp) (x:V) (xs:List V) (v:Value) (us:List Value) (Q:VK),Inv X pins σ H s->bJ x v->aZ xs us->r x xs H Q ->
  wpAny (model X.prog X.w) X.A (call (.builtin id) (v::us)) (EP X pins σ Q) X.xe s
theorem aZ.one {x:V} {us:List Value} (r:aZ [x] us):∃ u,us = [u]/\bJ x u:=gG r
theorem aZ.two {x y:V} {us:List Value} (r:aZ [x,y] us):∃ u v,us = [u,v]/\bJ x u/\bJ y v:=lF r
theorem aZ.zero:∀ {us:List Value},aZ [] us->us = []
 | _,.nil=>rfl
theorem aZ.dropLast {xs:List V} {us:List Value} (h:aZ xs us):aZ xs.dropLast us.dropLast:=by
 induction h with
 | nil=>exact .nil
 | cons r t ih =>
  cases t with
  | nil=>exact .nil
  | cons q t'=>exact .cons r ih
theorem aZ.eraseIdx:∀ {xs:List V} {us:List Value} (i:Nat),aZ xs us->aZ (xs.eraseIdx i) (us.eraseIdx i)
 | _,_,_,.nil=>.nil
 | _,_,0,.cons _ t=>t
 | _,_,i+1,.cons r t=>.cons r (aZ.eraseIdx i t)
theorem aZ.reverse {xs:List V} {us:List Value} (h:aZ xs us):aZ xs.reverse us.reverse:=by
 induction h with
 | nil=>exact .nil
 | cons r t ih=>rw [List.reverse_cons,List.reverse_cons]; exact aZ.append ih (.cons r .nil)
theorem aZ.rep {xs:List V} {us:List Value} (h:aZ xs us):∀ k:Nat,aZ (List.replicate k xs).flatten (List.replicate k us).flatten
 | 0=>.nil
 | k+1=>by
  rw [Xd,Xd,Xr,Xr]
  exact aZ.append h (aZ.rep h k)
theorem rX {α:Type}:∀ (l:List α) (i:Nat),(l.eraseIdx i).length<=l.length
 | [],_=>Qi _
 | _::_,0=>Yt _
 | _::r,i+1=>Yf (rX r i)
theorem kT (its:List Value):∀ (k:Nat) (acc:List Value),
  List.foldl (fun x1 x2=>x1++x2) acc.toArray (List.replicate k its.toArray)=(acc++(List.replicate k its).flatten).toArray
 | 0,acc=>by simp
 | k+1,acc=>by
  have e:acc.toArray++its.toArray=(acc++its).toArray:=by simp
  have e2:(acc++its)++(List.replicate k its).flatten=acc++(List.replicate (k+1) its).flatten:=by
   rw [Xd,Xr,List.append_assoc]
  rw [<- e2,<- kT its k (acc++its),<- e,Xd,List.foldl_cons]
section
variable {X:Cx} {pins:List (Addr×Obj)} {σ:St} {H:Hp} {s:Shared} {l b:Addr} {xs ys zs:List V}
theorem Inv.lset {its its':List Value} {n:Nat} {f:Array Value->Array Value} {t':Nat} (I:Inv X pins σ H s) (hH:H l=some (.lst xs))
  (e:s.heap.get? l=some { cls:=.type "list",data:=.seq its.toArray n }) (hf:f its.toArray=its'.toArray) (hv:aZ ys its') (hz:ys.length<=sizeLine) :
  Inv X pins σ (upd H l (.lst ys)) { s with heap:=s.heap.update l (Obj.mapSeq f),toks:=t' }:=by
 have q:=PySem.IsL.update e f
 rw [hf] at q
 refine I.write (x:=l) (e:=l) (by rw [hH]; exact trivial) (.inl rfl) (fun b' u hb hu=>(Qw s.heap (Obj.mapSeq f) (Ne.symm hb)).trans hu) ⟨_,q⟩ ?_
 exact ⟨hz,its',_,hv,q⟩
theorem Inv.lnew {its:List Value} {t':Nat} (I:Inv X pins σ H s) (hv:aZ ys its) (hz:ys.length<=sizeLine) :
  Inv X pins σ (upd H s.heap.objs.size (.lst ys)) { s with heap:=s.heap.push { cls:=.type "list",data:=.seq its.toArray },toks:=t' } :=
 I.laid (fun _ _ q=>Qa _ q) (Qi _) ⟨hz,its,0,hv,Qe _ rfl⟩
theorem Inv.fresh (I:Inv X pins σ H s):H s.heap.objs.size=none:=I.hok.fresh (Qi _)
theorem Inv.lstM (I:Inv X pins σ H s) (hH:H l=some (.lst xs)):xs.length<=sizeLine/\∃ (its:List Value) (n:Nat),aZ xs its/\xs.length=its.length/\s.heap.get? l=some { cls:=.type "list",data:=.seq its.toArray n }:=by
 obtain ⟨z,its,n,r,e⟩:=I.hok l _ hH
 exact ⟨z,its,n,r,r.length,e⟩
theorem aBn {n:Nat} (h:n<=sizeLine):Builtin.List.listTooLong n=false:=by
 unfold Builtin.List.listTooLong
 exact decide_eq_false (by omega)
end
section
variable {X:Cx}
def aCQ:V->List V->Hp->VK->Prop:=fun x vs H Q=>∃ l xs y,x=.ref l/\vs = [y]/\H l=some (.lst xs)/\xs.length < sizeLine/\Q .non (upd H l (.lst (xs++[y])))
theorem gM:MtM X "list.append" aCQ:=by
 intro pins s σ H x vs v us Q I rx rv h
 obtain ⟨l,xs,y,rfl,rfl,hH,hz,q⟩:=h
 cases rx
 obtain ⟨u,rfl,ru⟩:=rv.one
 obtain ⟨z,its,n,r,hl,e⟩:=I.lstM hH
 refine call_meets F.slot_list_append ⟨_,e,rfl⟩ F.entry_list_append (F.args_list_append_2 _ _) (PySem.list_append l its.toArray n u (by rw [Qg]; omega)) ⟨e,?_⟩
 refine ⟨.non,_,I.lset (its':=its++[u]) hH e (by simp) (r.append (.cons ru .nil)) ?_,rfl,q⟩
 rw [Qs,List.length_singleton]
 omega
def aEi:V->List V->Hp->VK->Prop:=fun x vs H Q=>∃ l xs i k y,x=.ref l/\vs = [.int i]/\H l=some (.lst xs)/\-(2^63)<=i/\i < 2^63/\seqIndex? i xs.length=some k/\xs[k]?=some y/\Q y (upd H l (.lst (xs.eraseIdx k)))
theorem aBo:MtM X "list.pop" aEi:=by
 intro pins s σ H x vs v us Q I rx rv h
 obtain ⟨l,xs,i,k,y,rfl,rfl,hH,h1,h2,hk,hy,q⟩:=h
 cases rx
 obtain ⟨u,rfl,ru⟩:=rv.one
 obtain ⟨t,rfl⟩:=ru
 obtain ⟨z,its,n,r,hl,e⟩:=I.lstM hH
 obtain ⟨w,hw,rw'⟩:=r.get hy
 refine call_meets F.slot_list_pop ⟨_,e,rfl⟩ F.entry_list_pop (F.args_list_pop_2 _ _)
  (MeetsSeq.list_pop_at l its.toArray n i t k w (fitsIndex_both h1 h2) (by rw [Qg,<- hl]; exact hk) (by rw [<- Array.getElem?_toList]; exact hw) (by rw [Qg]; omega)) ⟨e,?_⟩
 refine ⟨y,_,I.lset (its':=its.eraseIdx k) hH e ?_ (r.eraseIdx k) ?_,rw',q⟩
 ·show its.toArray.eraseIdxIfInBounds k=(its.eraseIdx k).toArray
  rw [List.eraseIdxIfInBounds_toArray]
 ·have:=rX xs k
  omega
def pB:R2:=fun x y H Q=>∃ l b xs zs,x=.ref l/\y=.ref b/\H l=some (.lst xs)/\H b=some (.lst zs)/\xs.length+zs.length<=sizeLine/\∀ p,H p=none->Q (.ref p) (upd H p (.lst (xs++zs)))
theorem jU:OpR X (binaryOp .Add) pB:=by
 intro pins s σ H x y v u Q I rx ry h
 obtain ⟨l,b,xs,zs,rfl,rfl,hH,hB,hz,q⟩:=h
 cases rx
 cases ry
 obtain ⟨z,its,n,r,hl,e⟩:=I.lstM hH
 obtain ⟨z2,its2,n2,r2,hl2,e2⟩:=I.lstM hB
 refine PySem.P.add_list e e2 ?_ (by rw [Qg,Qg]; omega)
 have ea:its.toArray++its2.toArray=(its++its2).toArray:=by simp
 rw [ea]
 exact ⟨.ref _,_,I.lnew (t':=s.toks) (r.append r2) (by rw [Qs]; omega),rfl,q _ I.fresh⟩
def aFO:R2:=fun x y H Q=>∃ l k xs,x=.ref l/\y=.int k/\H l=some (.lst xs)/\-(2^63)<=k/\k < 2^63/\xs.length*k.toNat<=sizeLine /\
 ∀ p,H p=none->Q (.ref p) (upd H p (.lst (List.replicate k.toNat xs).flatten))
theorem oI {α:Type} (xs:List α) (k:Nat):(List.replicate k xs).flatten.length=k*xs.length:=by
 induction k with
 | zero=>simp
 | succ k ih=>rw [Xd,Xr,Qs,ih,Nat.succ_mul,Nat.add_comm]
theorem aBp:OpR X (binaryOp .Mult) aFO:=by
 intro pins s σ H x y v u Q I rx ry h
 obtain ⟨l,k,xs,rfl,rfl,hH,h1,h2,hz,q⟩:=h
 cases rx
 obtain ⟨t,rfl⟩:=ry
 obtain ⟨z,its,n,r,hl,e⟩:=I.lstM hH
 have hlen:its.toArray.size*k.toNat<=sizeLine:=by rw [Qg,<- hl]; exact hz
 have hcap:¬ its.toArray.size*k.toNat > (2^63 - 1) / 8:=by
  have:(sizeLine:Nat)<=(2^63 - 1) / 8:=by decide
  omega
 have hfit:¬ (!Builtin.List.listFitsIndex k)=true:=by
  rw [fitsIndex_both h1 h2]
  exact Qq
 have hlong:¬ Builtin.List.listTooLong (its.toArray.size*k.toNat)=true:=by
  rw [aBn hlen]
  exact Qq
 have hnew:List.foldl (fun x1 x2=>x1++x2) #[] (List.replicate (if its.toArray.isEmpty=true then 0 else k.toNat) its.toArray)=(List.replicate k.toNat its).flatten.toArray:=by
  have f0:∀ m:Nat,List.foldl (fun x1 x2=>x1++x2) #[] (List.replicate m its.toArray)=(List.replicate m its).flatten.toArray:=fun m=>by
   have:=kT its m []
   rw [Xy] at this
   exact this
  rw [f0]
  cases its with
  | nil=>simp
  | cons a r'=>rw [if_neg (by simp)]
 refine wpAny_binaryOp_repeat_ref (T := "list") (U := "int") (by decide) ⟨_,e,rfl⟩ (fun s'=>typeIs_int s' k t) noFill_list_mul F.fills_int_mul F.slot_int_rmul repeat_list F.slot_int_index.lookup
  (call_meets F.slot_int_rmul (typeIs_int s k t) F.entry_int_rmul (F.args_int_rmul_2 _ _) (int___rmul___int_list k t l its.toArray n)
   ⟨e,rfl,⟨_,e,rfl⟩,call_meets F.slot_list_mul ⟨_,e,rfl⟩ F.entry_list_mul (F.args_list_mul_2 _ _) (AutoListH.list___mul___list_int_3 l its.toArray n k t hfit hcap hlong) ⟨e,?_⟩⟩)
 rw [hnew]
 exact ⟨.ref _,_,I.lnew (t':=s.toks) (r.rep k.toNat) (by rw [oI,Nat.mul_comm]; exact hz),rfl,q _ I.fresh⟩
end
section
variable {prog:Program} {w:World} {A:Around} {E:Value->Shared->Prop} {s:Shared}
end
section
variable {X:Cx}
end
end L2
namespace Att
open PySem PySem.W PySem.Calls PyProof.Rows
theorem oE {P:Params} {h:Heap}:∀ (ns:List Int) (vs:List Value),WellAll P h vs (ns.map WData.int)->IntsAre vs ns:=by
 intro ns
 induction ns with
 | nil =>
  intro vs w
  rw [Ym] at w
  cases w
  exact .nil
 | cons n ns ih =>
  intro vs w
  rw [Qu] at w
  cases w with
  | cons a b =>
   cases a
   exact .cons _ _ (ih _ b)
theorem aAE {l:OpenLaw} {n:Nat} (hn:l.most=some n) {P:Params} {h:Heap} {args:List WData} {vals:List Value}
  (hpre:l.row.toRowW.claim.pre args=true) (hwl:WellAll P h vals args) :
  ∃ a vs ns,vals = [Value.ref a]/\args = [WData.list (ns.map WData.int)]/\h.get? a=some { cls:=.type "list",data:=.seq vs.toArray }/\IntsAre vs ns/\ns.length<=n:=by
 have hsh:WShape.hasAll [] args [.list .int]=true:=(pre_splitW hpre).1
 have hc:l.pre.holds [] { args:=args }=true:=(pre_splitW hpre).2
 obtain ⟨d,r,rfl,h1,h2⟩:=hasAllW_cons hsh
 obtain rfl:=hasAllW_nil h2
 obtain ⟨xs,rfl,h3⟩:=hasW_list h1
 obtain ⟨ns,rfl⟩:=items_int h3
 have hlen:ns.length<=n:=by
  unfold OpenLaw.pre at hc
  have h4:(WTm.not (.lt (.lit (.int (n:Int))) (.len (.arg 0)))).holds [] { args:=[.list (ns.map .int)] }=true:=by
   have h4:=(holds_andW hc).1
   rw [hn] at h4
   exact h4
  have h5:=condW_of h4 (w_not (w_lt w_lit (w_len_list (w_arg rfl))))
  rw [Qb] at h5
  refine Nat.le_of_not_lt fun q=>?_
  have q':(n:Int) < ((ns.length:Nat):Int):=by omega
  first
   | (rw [decide_eq_true q'] at h5; exact absurd h5 (by decide))
   | (simp at h5; omega)
 cases hwl with
 | cons w1 w2 =>
  cases w2
  cases w1 with
  | list ho hall=>exact ⟨_,_,ns,rfl,rfl,ho,oE ns _ hall,hlen⟩
theorem aAF (l:OpenLaw) (args:List WData):l.row.toRowW.claim.post args (.bool true) args=true :=
 postW_of (r:=l.row.toRowW) (X:=(true==true))
  (show WShape.has [] (.bool true) .bool=true by first | rfl | decide | simp [WShape.has,WShape.arms,WShape.armsAll])
  (show (WTm.eq .res (.lit (.bool true))).value [] { args:=args,res:=some (.bool true),after:=args }=some (.bool (true==true)) from w_eq_bool (w_res rfl) w_lit) rfl
theorem attach_call {l:OpenLaw} {n:Nat} {q:Program} {loose:List Str} {XP:(Str->Option Value)->Heap->Prop} {YP:World->Heap->Prop} {d:DefRec}
  (hn:l.most=some n) (hdf:d.params.defaults = [])
  (call:∀ (w:World) (s₀ s₁:Shared) (mg mb:Str->Option Value) (fa:Addr) (o:Obj) (pm cd doc:Value) (a:Addr) (vs:List Value) (ns:List Int),
   Ground q loose [] XP w s₀ mg mb s₁.heap->YP w s₁.heap ->
   s₁.heap.get? fa=some o->o.data=.func (docDef d.name d.params d.body d.scope pm cd doc)->s₁.heap.CodeRec cd d.name->mg d.name=some (.ref fa) ->
   s₁.heap.get? a=some { cls:=.type "list",data:=.seq vs.toArray }->IntsAre vs ns->ns.length<=n->s₁.gens = #[] ->
   codeAny (model l.prog w) callerA (.call (.ref fa) ⟨[.ref a],[]⟩) (fun r s'=>r=.ok (.ret (.bool true))/\OldK s₁.heap s'.heap/\s'.os=s₁.os/\AllBare s'.gens) s₁) :
  WalkO q loose XP YP l.row.toRowW d [] (fun f vs=>PySem.call f vs):=by
 intro w s₀ s₁ mg mb G Y fa o pm cd doc dV kV ho hd hcd hD hmg hg args vals as hpre hlay hrd hwl hlo
 obtain rfl:dV=.none:=Dflts.none hD hdf
 obtain rfl:kV=.none:=Dflts.noKw hD
 obtain ⟨a,vs,ns,rfl,rfl,hobj,hints,hlen⟩:=aAE hn hpre hwl
 refine enter_call (codeAny_mono (call w s₀ s₁ mg mb fa o pm cd doc a vs ns G Y ho (fd_plain hd) hcd hmg hobj hints hlen hg) fun r s' hq=>?_)
 obtain ⟨rfl,h2,h3,h4⟩:=hq
 exact ⟨.inl ⟨.bool true,.bool true,[],rfl,fun _=>rfl,.bool true,aAF l _,fun _=>⟨List.Pairwise.nil,fun _ hm=>(nomatch hm)⟩⟩,h2,h3,h4⟩
section
variable {prog:Program} {w:World} {A:Around} {E:Value->Shared->Prop} {s:Shared} {K:Frag}
end
end Att
namespace L2
open PySem PySem.Spec PyProof.Rows
theorem mY:∀ {vs:List Value} {ns:List Int},IntsAre vs ns->aZ (ns.map V.int) vs
 := by
 intro vs ns h
 induction h with
 | nil=>exact .nil
 | cons n t h ih=>exact .cons ⟨t,rfl⟩ ih
def hJ (s:Stmt):Arguments:=match s with
 | .FunctionDef _ a _ _ _ _ _ _ _ _=>a
 | _=>{ posonlyargs:=[],args:=[],vararg:=none,kwonlyargs:=[],kw_defaults:=[],kwarg:=none,defaults:=[] }
def cN (s:Stmt):List Stmt:=match s with
 | .FunctionDef _ _ b _ _ _ _ _ _ _=>b
 | _=>[]
def aO (s:Stmt):Scope:=match s with
 | .FunctionDef _ _ _ _ _ _ sc _ _ _=>sc
 | _=>{ kind:=.function,names:=[],isGenerator:=false,isCoroutine:=false }
abbrev CX0:CXT:=fun _ _ _ _ _ _=>False
abbrev E0:XK:=fun _ _ _=>False
theorem aDL {X:Cx}:mW CX0 X E0:=fun _ _ _ _ _ _ _ h=>h.elim
structure Fun (K:PySem.W.Frag) (x qual:Str) (st:Stmt) (f:Addr) (fd:FuncData):Prop where
 ex:∃ (oc:Value) (od:Option Addr) (kV doc pm:Value) (an:Option Addr) (cdv ct:Value) (osl:Array (Option Value)),
  fd=PySem.W.fnOf x qual (hJ st) (cN st) (aO st) .none kV doc pm an cdv ct/\K.lookup f=some ⟨oc,od,.func fd,osl⟩/\PySem.W.codeIn K cdv qual=true
 kp:PySem.W.keepIn K (.ref f)=true
section
variable {P:Program} {w:World} {K:PySem.W.Frag} {mg:Str->Option Value} {base:Heap}
theorem Fun.ok {x qual:Str} {st:Stmt} {f:Addr} {fd:FuncData} {N ps:List Str} {k:Nat} {sp:Sp} (F:Fun K x qual st f fd) (S:FnScope N ps (aO st)) (len:∀ vs H Q E,sp vs H Q E->vs.length=ps.length)
  (hbody:∀ (cdv:Value) (A:Around) (outer:List Env) (s:Shared) (H:Hp) (vs:List V) (Q:VK) (E:XK),Room k (A.deeper (envOfC qual (aO st) s.heap.objs.size f cdv))->sp vs H Q E ->
   ∃ t,PSs (lM CX0 P w K mg base N qual (aO st) f cdv A outer s H E).nox (cN st) t/\t { nx:=fun _ H'=>Q .non H',rt:=Q } (lG N vs) H):FnOk P w K mg base CX0 (k+1) f fd ps sp:=by
 obtain ⟨oc,od,kV,doc,pm,an,cdv,ct,osl,rfl,lk,hcd⟩:=F.ex
 refine aBk lk hcd S len fun A outer s H vs Q E hr hsp=>?_
 obtain ⟨t,h,q⟩:=hbody cdv A outer s H vs Q E hr hsp
 exact ⟨t,h.nox,q⟩
theorem Fun.binds {x qual:Str} {st:Stmt} {f:Addr} {fd:FuncData} {ps:List Str} (F:Fun K x qual st f fd)
  (h:∀ (kV doc pm:Value) (an:Option Addr) (cdv ct:Value) (us:List Value),us.length=ps.length->bindArgs (PySem.W.fnOf x qual (hJ st) (cN st) (aO st) .none kV doc pm an cdv ct) ⟨us,[]⟩=pure (ps.zip us)):mC K fd ps []:=by
 obtain ⟨oc,od,kV,doc,pm,an,cdv,ct,osl,rfl,lk,hcd⟩:=F.ex
 exact .all (h kV doc pm an cdv ct)
theorem aBq {x qual:Str} {st:Stmt} {f:Addr} {oc:Value} {od an:Option Addr} {osl:Array (Option Value)} {kV doc pm cdv ct:Value} (l:K.lookup f=some ⟨oc,od,.func (PySem.W.fnOf x qual (hJ st) (cN st) (aO st) .none kV doc pm an cdv ct),osl⟩)
  (c:PySem.W.codeIn K cdv qual=true) (k:PySem.W.keepIn K (.ref f)=true):Fun K x qual st f (PySem.W.fnOf x qual (hJ st) (cN st) (aO st) .none kV doc pm an cdv ct):=⟨⟨oc,od,kV,doc,pm,an,cdv,ct,osl,rfl,l,c⟩,k⟩
end
theorem pC {A:Around} {k:Nat} (hr:Room k A):A.units+1 < cLine:=Zw (Nat.add_le_add_left (by decide:1<=64) _) hr.units
theorem kU {n:Nat} (h:n<=1000):n < sizeLine:=Zw h (by decide)
section
variable {X:Cx}
theorem pv (i:Nat) {x:Str} {pos:Pos} (hN:X.N[i]?=some x:=by rfl) (hv:Vis X.env.scope x:=by first | exact Or.inl rfl | exact Or.inr (Or.inl rfl) | exact Or.inr (Or.inr rfl)) (hd:(x==("__debug__" : Str))=false:=by decide)
  (hcd:(x==("__classdict__" : Str))=false:=by decide):PE X (.Name x pos) (jK i):=aBb hN hv hd hcd
end
theorem eQ {A B:Prop} (h:B):if false=true then A else B:=by
 rw [if_neg Qq]
 exact h
theorem eD {A B:Prop} (h:A):if true=true then A else B:=by
 rw [if_pos rfl]
 exact h
theorem cR {c A B:Prop} [Decidable c] (h1:c->A) (h2:¬ c->B):if c then A else B:=by
 by_cases h:c
 ·rw [if_pos h]
  exact h1 h
 ·rw [if_neg h]
  exact h2 h
def aF (H H':Hp):Prop:=∀ b o,H b=some o->H' b=some o
theorem aF.refl (H:Hp):aF H H:=fun _ _ h=>h
theorem aF.trans {H H1 H2:Hp} (a:aF H H1) (b:aF H1 H2):aF H H2:=fun c o h=>b c o (a c o h)
theorem aF.free {H H':Hp} (e:aF H H') {l:Addr} (h:H' l=Option.none):H l=Option.none:=by
 cases q:H l with
 | none=>rfl
 | some o =>
  rw [e l o q] at h
  cases h
theorem aF.seq {K:PySem.W.Frag} {H H':Hp} {a:Addr} {xs:List V} (e:aF H H') (h:SqL K H a xs):SqL K H' a xs:=by
 rcases h with (h | ⟨o,h⟩) | h
 ·exact .inl (.inl (e _ _ h))
 ·exact .inl (.inr ⟨o,e _ _ h⟩)
 ·exact .inr h
def eS (env:Env):List (Str×NameKind)->List (Str×Addr)->List (Str×Addr)
 | [],acc=>acc
 | (n,k)::r,acc=>if k==.free then (match env.cells.lookup n with | some c=>eS env r ((n,c)::acc) | none=>eS env r acc) else eS env r acc
theorem vB {env:Env}:∀ (names:List (Str×NameKind)) (acc:List (Str×Addr)),(∀ y∈names,y.2=.free->∃ c,env.cells.lookup y.1=some c) ->
  (forIn names acc fun (x:Str×NameKind) (r:List (Str×Addr))=>(match x with
   | (name,kind)=>if (kind==NameKind.free)=true then (do let a<-cellOf env name; pure (ForInStep.yield ((name,a)::r))) else pure (ForInStep.yield r):Sem (ForInStep (List (Str×Addr)))))=(pure (eS env names acc):Sem _)
 | [],acc,_=>rfl
 | (n,k)::r,acc,h=>by
  have ih:=fun acc=>vB r acc fun y hy=>h y (Qm _ hy)
  rw [Xs]
  by_cases hk:(k==NameKind.free)=true
  ·obtain ⟨c,hc⟩:=h (n,k) Qo (by simpa using hk)
   have e1:eS env ((n,k)::r) acc=eS env r ((n,c)::acc):=by
    show (if k==.free then _ else _)=_
    rw [if_pos hk]; simp only at hc; rw [hc]
   simp only at hc
   rw [e1,<- ih]
   simp only [hk,if_true,cellOf,hc]
   rfl
  ·have e1:eS env ((n,k)::r) acc=eS env r acc:=by
    show (if k==.free then _ else _)=_
    rw [if_neg hk]
   rw [e1,<- ih]
   simp only [hk,if_false]
   rfl
theorem xR {env:Env} {scope:Scope} (h:∀ y∈scope.names,y.2=.free->∃ c,env.cells.lookup y.1=some c):closureFor scope env=pure (eS env scope.names []):=by
 unfold closureFor
 have e:=vB scope.names [] h
 show (forIn scope.names [] _ >>= _)=_
 exact (congrArg (fun z=>z >>= fun r=>pure r) e).trans rfl
theorem jV {env:Env}:∀ (names:List (Str×NameKind)) (acc:List (Str×Addr)) (n:Str) (c:Addr),(n,c)∈eS env names acc->(n,c)∈acc∨env.cells.lookup n=some c
 | [],_,_,_,h=>.inl h
 | (m,k)::r,acc,n,c,h=>by
  by_cases hk:(k==NameKind.free)=true
  ·rw [show eS env ((m,k)::r) acc=(match env.cells.lookup m with | some c=>eS env r ((m,c)::acc) | none=>eS env r acc) from if_pos hk] at h
   cases e:env.cells.lookup m with
   | none=>rw [e] at h; exact jV r acc n c h
   | some d =>
    rw [e] at h
    rcases jV r _ n c h with q | q
    ·rcases Qk.mp q with q | q
     ·cases q; exact .inr e
     ·exact .inl q
    ·exact .inr q
  ·rw [show eS env ((m,k)::r) acc=eS env r acc from if_neg hk] at h
   exact jV r acc n c h
theorem jW {env:Env}:∀ (names:List (Str×NameKind)) (acc:List (Str×Addr)) (n:Str),((∃ c,(n,c)∈acc)∨((n,NameKind.free)∈names/\∃ c,env.cells.lookup n=some c))->∃ c,(n,c)∈eS env names acc
 | [],_,_,h=>by
  rcases h with h | ⟨h,_⟩
  ·exact h
  ·cases h
 | (m,k)::r,acc,n,h=>by
  by_cases hk:(k==NameKind.free)=true
  ·rw [show eS env ((m,k)::r) acc=(match env.cells.lookup m with | some c=>eS env r ((m,c)::acc) | none=>eS env r acc) from if_pos hk]
   cases e:env.cells.lookup m with
   | none =>
    refine jW r acc n ?_
    rcases h with h | ⟨h,c,hc⟩
    ·exact .inl h
    ·rcases Qk.mp h with h | h
     ·cases h; rw [e] at hc; cases hc
     ·exact .inr ⟨h,c,hc⟩
   | some d =>
    refine jW r _ n ?_
    rcases h with ⟨c,h⟩ | ⟨h,c,hc⟩
    ·exact .inl ⟨c,Qm _ h⟩
    ·rcases Qk.mp h with h | h
     ·cases h; exact .inl ⟨d,Qo⟩
     ·exact .inr ⟨h,c,hc⟩
  ·rw [show eS env ((m,k)::r) acc=eS env r acc from if_neg hk]
   refine jW r acc n ?_
   rcases h with h | ⟨h,c,hc⟩
   ·exact .inl h
   ·rcases Qk.mp h with h | h
    ·cases h; exact absurd rfl hk
    ·exact .inr ⟨h,c,hc⟩
theorem hU {β:Type}:∀ {l:List (Str×β)} {a:Str} {b:β},l.lookup a=some b->(a,b)∈l:=PySem.mem_of_lookup_some
theorem jX {β:Type}:∀ {l:List (Str×β)} {a:Str} {b:β},(a,b)∈l->∃ c,l.lookup a=some c
 | (k,v)::l,a,b,h=>by
  rw [Jo]
  by_cases e:(a==k)=true
  ·rw [e]; exact ⟨v,rfl⟩
  ·have e':(a==k)=false:=by simpa using e
   rw [e']
   rcases Qk.mp h with h | h
   ·cases h; simp at e
   ·exact jX h
theorem gQ {env:Env} (x:Str):∀ (names:List (Str×NameKind)),
  (names.map fun (n,k)=>if (k==NameKind.free && env.scope.kind==.function && env.kindOf n==some .cell) then (n,NameKind.cell) else (n,k)).lookup x =
   (names.lookup x).map fun k=>if (k==NameKind.free && env.scope.kind==.function && env.kindOf x==some .cell) then NameKind.cell else k
 | []=>rfl
 | (n,k)::r=>by
  have ih:=gQ (env:=env) x r
  rw [Qu]
  by_cases e:(x==n)=true
  ·have en:x=n:=by simpa using e
   subst en
   dsimp only
   by_cases c:(k==NameKind.free && env.scope.kind==.function && env.kindOf x==some .cell)=true
   ·rw [if_pos c,Jo,Jo,e]
    simp only [Xi,c,if_true]
   ·rw [if_neg c,Jo,Jo,e]
    simp only [Xi,c]
    rfl
  ·have e':(x==n)=false:=by simpa using e
   dsimp only
   by_cases c:(k==NameKind.free && env.scope.kind==.function && env.kindOf n==some .cell)=true
   ·rw [if_pos c,Jo,Jo,e']; exact ih
   ·rw [if_neg c,Jo,Jo,e']; exact ih
def cF (X:Cx) (scope:Scope) (N:List Str) (C:Addr) (s0:Shared) (H0:Hp) (fp:List Addr):Cx where
 prog:=X.prog
 w:=X.w
 K:=X.K
 mg:=X.mg
 base:=X.base
 A:=X.A
 N:=N
 s₀:=s0
 H₀:=H0
 env:=compEnvC scope (eS X.env scope.names []) C X.env
 outer:=X.stack
 stack:=X.stack
 ex:=fp
 fn:=fun _=>false
 calm:=X.calm
 pn:=[]
 xe:=fun _ _=>False
def mZ (sc scope:Scope) (own:List Str) (frn:List Str):Bool :=
 scope.kind==.function && scope.names.all (fun y=>y.2 !=.cell) && scope.names.all (fun y=>y.2 !=.local || scope.names.lookup y.1==some .local) &&
 scope.names.all (fun y=>y.2 !=.free || sc.names.lookup y.1==some .cell || sc.names.lookup y.1==some .free) && decide (own++frn).Nodup &&
 own.all (fun x=>scope.names.lookup x==some .local) && frn.all (fun x=>scope.names.lookup x==some .free)
def blk (own:Nat) (fr:List Nat) (σ:St):St:=List.replicate own none++fr.map fun j=>(σ[j]?).join
structure CompOk (X:Cx) (scope:Scope) (own:List Str) (fr:List Nat) (frn:List Str):Prop where
 ck:mZ X.env.scope scope own frn=true
 ix:∀ (k:Nat) (x:Str),frn[k]?=some x->∃ j:Nat,fr[k]?=some j/\X.N[j]?=some x
 len:fr.length=frn.length
section
variable {X:Cx} {scope:Scope} {own frn:List Str} {fr:List Nat}
theorem CompOk.parts (S:CompOk X scope own fr frn):scope.kind=.function/\(∀ y∈scope.names,y.2≠.cell)/\(∀ y∈scope.names,y.2=.local->scope.names.lookup y.1=some .local) /\
  (∀ y∈scope.names,y.2=.free->X.env.scope.names.lookup y.1=some .cell∨X.env.scope.names.lookup y.1=some .free)/\(own++frn).Nodup/\(∀ x∈own,scope.names.lookup x=some .local)/\∀ x∈frn,scope.names.lookup x=some .free:=by
 have h:=S.ck
 unfold mZ at h
 simp only [Qv,Ja,decide_eq_true_eq,Yn,bne_iff_ne,ne_eq,beq_iff_eq] at h
 obtain ⟨⟨⟨⟨⟨⟨h1,h2⟩,h3⟩,h4⟩,h5⟩,h6⟩,h7⟩:=h
 refine ⟨h1,h2,fun y hy e=>?_,fun y hy e=>?_,h5,h6,h7⟩
 ·rcases h3 y hy with z | z
  ·exact absurd e z
  ·exact z
 ·rcases h4 y hy with (z | z) | z
  ·exact absurd e z
  ·exact .inl z
  ·exact .inr z
theorem xS (S:CompOk X scope own fr frn) (σ:St):(blk own.length fr σ).length=(own++frn).length:=by
 unfold blk
 rw [Qs,Qs,Jw,Qb,S.len]
theorem aBr {pins:List (Addr×Obj)} {σ:St} {H:Hp} {s:Shared} {fp:List Addr} {h1:Heap} {tk:Nat} {C D:Addr} {oD:Obj} {m:Str->Option Value} (I:Inv X pins σ H s) (S:CompOk X scope own fr frn)
  (hfp:∀ b∈fp,oS X pins H b) (hlt:∀ b∈fp,b < s.heap.objs.size) (hC:s.heap.objs.size<=C) (hn:h1.Ns C m) (hk:∀ b o,s.heap.get? b=some o->h1.get? b=some o)
  (hD:s.heap.objs.size<=D) (hDC:D≠C) (hoD:h1.get? D=some oD) (hdD:∀ v,oD.data≠.cell v) :
  Inv (cF X scope (own++frn) C s H fp) [(D,oD)] (blk own.length fr σ) H { s with heap:=h1,toks:=tk }:=by
 obtain ⟨p1,p2,p3,p4,p5,p6,p7⟩:=S.parts
 have below:∀ b,b < s.heap.objs.size->b≠C:=fun b hb z=>Jb _ (Qp (z ▸ hb) hC)
 have clsub:∀ x c,(eS X.env scope.names []).lookup x=some c->X.env.cells.lookup x=some c:=fun x c e=>by
  rcases jV _ _ _ _ (hU e) with q | q
  ·cases q
  ·exact q
 have clt:∀ x c,X.env.cells.lookup x=some c->c < s.heap.objs.size:=fun x c e=>by
  obtain ⟨v,q⟩:=I.cell x c e
  exact q.lt
 have nstk:∀ b∈fp,b∉frs X.stack:=fun b hb z=>by
  obtain ⟨_,f1,f2,_⟩:=hfp b hb
  rcases Qk.mp (I.stkSub b z) with e | e
  ·exact f1 e
  ·exact f2 e
 have Dfs:D∉frs X.stack:=fun z=>by
  have q:=I.stkSub D z
  rcases Qk.mp q with e | e
  ·exact Jb _ (Qp (e ▸ I.lt:D < _) hD)
  ·exact I.nofs hD e
 refine ⟨⟨I.ok.mod,p1,I.ok.glob,I.ok.blt,hC,fun x y c e1 e2=>I.ok.inj x y c (clsub x c e1) (clsub y c e2),fun x hx=>?_,fun x c e=>absurd e (by show ¬ (false=true); decide),I.ok.hd,I.ok.frames,.inl rfl,fun b hb=>?_,I.bs,Qx I.ok.bsz I.sz,fun b o e hb=>?_,nstk,I.stack,I.stkFree⟩,
  rfl,I.bare,Un.kept hk,⟨m,hn,fun i x v e1 e2 e3=>?_⟩,fun x c e=>?_,I.hok.fresh hC,fun x c e=>I.freeC x c (clsub x c e),fun p hp=>?_,I.hok.kept hk,xS S σ⟩
 ·-- has
  have hx':(relabel scope X.env).names.lookup x=some .cell∨(relabel scope X.env).names.lookup x=some .free:=hx
  have hl:(relabel scope X.env).names.lookup x=_:=gQ (env:=X.env) x scope.names
  rw [hl] at hx'
  cases e:scope.names.lookup x with
  | none =>
   rw [e] at hx'
   rcases hx' with z | z <;> cases z
  | some k =>
   have hmem:=hU e
   have hkf:k=.free:=by
    rw [e] at hx'
    simp only [Xi,Option.some.injEq] at hx'
    by_cases c:(k==NameKind.free && X.env.scope.kind==.function && X.env.kindOf x==some .cell)=true
    ·simp only [Qv,beq_iff_eq] at c
     exact c.1.1
    ·rw [if_neg c] at hx'
     rcases hx' with z | z
     ·exact absurd z (p2 _ hmem)
     ·exact z
   subst hkf
   obtain ⟨c,hc⟩:=I.ok.has x (p4 _ hmem rfl)
   obtain ⟨c',hc'⟩:=jW (env:=X.env) scope.names [] x (.inr ⟨hmem,c,hc⟩)
   exact jX hc'
 ·-- exf
  refine ⟨below b (hlt b hb),fun x c e=>?_⟩
  exact (hfp b hb).2.2.2.2.1 x c (clsub x c e)
 ·-- noex
  rcases (hfp b hb).2.2.2.1 with z | z
  ·exact I.ok.noex b o e z
  ·exact absurd (Qp (Ql (I.ok.bs b o e).1) z) (Jb _)
 ·-- loc
  show ∃ u,bJ v u/\aEU _ _ _ x u
  have e1':(own++frn)[i]?=some x:=e1
  have e2':(blk own.length fr σ)[i]?=some (some v):=e2
  unfold blk at e2'
  by_cases hi:i < own.length
  ·rw [Je (by simpa using hi),Xa] at e2'
   rw [if_pos hi] at e2'
   cases e2'
  ·rw [Xn (by simpa using hi)] at e2'
   rw [Xn (by omega)] at e1'
   rw [Jw,Qh] at e2'
   obtain ⟨j,hj1,hj2⟩:=S.ix _ _ e1'
   rw [hj1] at e2'
   simp only [Xi,Option.some.injEq] at e2'
   have hσ:σ[j]?=some (some v):=by
    cases q:σ[j]? with
    | none=>rw [q] at e2'; cases e2'
    | some w=>rw [q] at e2'; exact congrArg some e2'
   have hfree:=p7 x (Qj e1')
   have hmem:=hU hfree
   have kx:=p4 _ hmem rfl
   have vis:Vis X.env.scope x:=by
    rcases kx with z | z
    ·exact .inr (.inl z)
    ·exact .inr (.inr z)
   obtain ⟨m0,hn0,hl0⟩:=I.loc
   obtain ⟨u,ru,lk⟩:=hl0 j x v hj2 hσ vis
   refine ⟨u,ru,.inr ⟨?_,?_⟩⟩
   ·show (relabel scope X.env).names.lookup x=some .cell∨(relabel scope X.env).names.lookup x=some .free
    have hl:(relabel scope X.env).names.lookup x=_:=gQ (env:=X.env) x scope.names
    rw [hl,hfree]
    simp only [Xi,Option.some.injEq]
    by_cases c:(NameKind.free==NameKind.free && X.env.scope.kind==.function && X.env.kindOf x==some .cell)=true
    ·rw [if_pos c]; exact .inl rfl
    ·rw [if_neg c]; exact .inr rfl
   ·rcases lk with ⟨kl,_⟩ | ⟨_,c,hc,hcell⟩
    ·have kl':X.env.scope.names.lookup x=some .local:=kl
     rcases kx with z | z <;> (have z':X.env.scope.names.lookup x=_:=z; rw [kl'] at z'; cases z')
    ·obtain ⟨c',hc'⟩:=jW (env:=X.env) scope.names [] x (.inr ⟨hmem,c,hc⟩)
     obtain ⟨c2,hc2⟩:=jX hc'
     have ec:c2=c:=by
      have:=clsub x c2 hc2
      rw [hc] at this
      exact (Option.some.inj this).symm
     subst ec
     obtain ⟨oc,ho,hd⟩:=hcell
     exact ⟨c2,hc2,oc,hk _ _ ho,hd⟩
 ·obtain ⟨v,o,ho,hd⟩:=I.cell x c (clsub x c e)
  exact ⟨v,o,hk _ _ ho,hd⟩
 ·have hp':p∈([]:List (Addr×Obj))++[(D,oD)]:=hp
  simp only [Xy,Qr] at hp'
  subst hp'
  exact ⟨hoD,I.hok.fresh hD,hDC,Dfs,hdD⟩
end
theorem vC {prog:Program} {w:World} {A:Around} {R:Result->Shared->Prop} {s:Shared} {elt target iter:Expr} {ifs:List Expr} {scope:Scope} {pos:Pos} {it acc:Value} {env:Env} (I:Nat->Shared->Prop)
  (turn:∀ n s,I n s->wpAny (model prog w) A (pyNext it) (fun r s₁=>match r with
   | none=>R (.ok .next) s₁
   | some v=>wpAny (model prog w) A (letOwnedTupleGo target it v) (fun _ s₁'=>wpAny (model prog w) A (assign target env v) (fun _ s₂ =>
     wpAny (model prog w) A (forIn ifs true fun c r=>if r=true then do let ok<-isTrue c env (eval c env); pure (ForInStep.yield ok) else pure (ForInStep.yield r)) (fun ok s₃ =>
      if ok=true then wpAny (model prog w) A (eval elt env) (fun x s₄ =>
       wpAny (model prog w) A (call (.builtin "list.append") [acc,x]) (fun _ s₅=>∃ m,m < n/\I m s₅) (fun _ _=>False) s₄) (fun _ _=>False) s₃
      else ∃ m,m < n/\I m s₃) (fun _ _=>False) s₂) (fun _ _=>False) s₁') (fun _ _=>False) s₁) (fun _ _=>False) s)
  (n:Nat) (h:I n s) :
  codeAny (model prog w) A (.compLoop (.ListComp elt [⟨target,iter,ifs,0⟩] scope pos) 0 it acc env) R s:=by
 refine codeAny_loop rfl I (fun n s hI=>?_) n h
 show wpAny _ A ((compTurn (.ListComp elt [⟨target,iter,ifs,0⟩] scope pos) 0 it acc env).onRaise (fun x=>do noteFrame x env; theTreesLotGoes x)) _ _ s
 refine wpAny_noted ?_
 rw [compTurn_list]
 refine wpAny_bind (wpAny_standAt (wpAny_bind (wpAny_mono (turn n s hI) (fun r s₁ h₁=>?_) fun _ _ h'=>h'.elim)))
 cases r with
 | none=>exact wpAny_pure h₁
 | some v =>
  refine wpAny_bind (wpAny_mono h₁ (fun _ s₁' h₁'=>?_) fun _ _ h'=>h'.elim)
  refine wpAny_bind (wpAny_mono h₁' (fun _ s₂ h₂=>wpAny_bind (wpAny_mono h₂ (fun ok s₃ h₃=>?_) fun _ _ h'=>h'.elim)) fun _ _ h'=>h'.elim)
  cases ok with
  | false=>exact wpAny_pure ⟨rfl,h₃⟩
  | true =>
   exact wpAny_bind (wpAny_bind (wpAny_mono h₃ (fun x s₄ h₄=>wpAny_bind (wpAny_mono h₄ (fun _ s₅ h₅=>wpAny_pure (wpAny_pure ⟨rfl,h₅⟩)) fun _ _ h'=>h'.elim)) fun _ _ h'=>h'.elim))
def PF (X:Cx) (ifs:List Expr) (t:TT):Prop :=
 ∀ (pins:List (Addr×Obj)) (s:Shared) (σ:St) (H:Hp) (Q:Bool->Hp->Prop),Inv X pins σ H s->t σ H Q ->
  wpAny (model X.prog X.w) X.A (forIn ifs true fun c r=>if r=true then do let ok<-isTrue c X.env (eval c X.env); pure (ForInStep.yield ok) else pure (ForInStep.yield r)) (TP X pins σ Q) X.xe s
def aBs:TT:=fun _ H Q=>Q true H
theorem iE {X:Cx}:PF X [] aBs:=fun _ _ _ H _ I h=>wpAny_tests_nil ⟨H,I,h⟩
theorem pD {X:Cx} {c:Expr} {t:TT} (h:PT X c t):PF X [c] t:=fun pins s σ H Q I hq=>wpAny_tests_one (h pins s σ H Q I hq)
def aDM (own:Nat) (fr:List Nat) (wi:TI) (g:TG) (tt:TT) (te:TE):TE:=fun σ H Q=>wi σ H fun J H1=>∃ W:Nat->Nat->List V->St->Hp->Prop,(∃ m,W 0 m [] (blk own fr σ) H1)/\∀ i m ys σ' H,W i m ys σ' H ->
 (J.stop i H/\∀ p,H p=none->Q (.ref p) (upd H p (.lst ys))) ∨
 (J.go i H/\∃ N:List V->St->Hp->Prop,(∀ ys' σ2 H2,N ys' σ2 H2->∃ m',m' < m/\W (i+1) m' ys' σ2 H2) /\
  ∀ x H',J.yld i H x H'->g x σ' H' fun σ2 H2=>tt σ2 H2 fun b H3=>if b=true then te σ2 H3 fun y H4=>ys.length < sizeLine/\N (ys++[y]) σ2 H4 else N ys σ2 H3)
section
variable {X:Cx} {scope:Scope} {own frn:List Str} {fr:List Nat} {elt tg iter:Expr} {ifs:List Expr} {pos:Pos} {wi:TI} {g:TG} {tt:TT} {te:TE}
theorem Inv.track {pins:List (Addr×Obj)} {σ:St} {H:Hp} {s:Shared} {D:Addr} {ys:List V} {its:Array Value} (I:Inv X pins σ H s) (hD:s.heap.PlainList D its) (hv:aZ ys its.toList) (hz:ys.length<=sizeLine) (hn:H D=none) (hL:D≠X.env.locals)
  (h1:X.s₀.heap.objs.size<=D) (h2:∀ x c,X.env.cells.lookup x=some c->c≠D) (h3:∀ p∈X.pn++pins,p.1≠D):Inv X pins σ (upd H D (.lst ys)) s:=by
 have ne:∀ b u,H b=some u->b≠D:=fun b u e z=>by rw [z,hn] at e; cases e
 refine I.step (g':=s.gens) (d':=s.drawn) (t':=s.toks) (h':=s.heap) (ch:=[D]) (fun b hb=>?_) (fun b o _ _ _ e _=>e) (fun b o _ _ _ e _=>⟨o.slots,e⟩) (fun b o hc _ n=>?_) (fun b o _ e=>⟨o,e⟩)
  (fun b xs e=>by rw [aK (ne b _ e)]; exact e) (fun b o u e=>by rw [aK (ne b _ e)]; exact e) (fun b ps e=>⟨#[],by rw [aK (ne b _ e),e]; simp⟩) (fun _ h=>h) (fun b u e=>?_) I.bare
 ·have e:b=D:=by simpa using hb
  subst e
  exact ⟨.inr h1,hL,h2,h3⟩
 ·rw [aK (by simpa using hc)]; exact n
 ·by_cases hb:b=D
  ·subst hb
   rw [aC] at e; cases e
   obtain ⟨n,e⟩:=hD
   exact ⟨hz,its.toList,n,hv,by simpa using e⟩
  ·rw [aK hb] at e
   exact (I.hok b u e).stay (fun c v _ q=>q) (fun c q=>by rw [aK (ne c _ q)]; exact q) fun c xs q=>by rw [aK (ne c _ q)]; exact q
theorem pE {pins:List (Addr×Obj)} {σ:St} {H2:Hp} {s2:Shared} {it:Addr} {fp:List Addr} {tn:Nat->Heap->Prop} {J:It} {RR:Value->Addr->Result->Shared->Prop} {E:Value->Shared->Prop} {Q:Hp->List V->Prop}
  (S:CompOk X scope own fr frn) (hc:X.calm=true) (I2:Inv X pins σ H2 s2) (T:Turn X.prog X.w X.K tg J fp it tn) (st2:tn 0 s2.heap) (f2:∀ b∈fp,oS X pins H2 b)
  (hg:∀ C s0 H0 fp,PG (cF X scope (own++frn) C s0 H0 fp) tg g) (ht:∀ C s0 H0 fp,PF (cF X scope (own++frn) C s0 H0 fp) ifs tt) (he:∀ C s0 H0 fp,PE (cF X scope (own++frn) C s0 H0 fp) elt te)
  (w:∃ W:Nat->Nat->List V->St->Hp->Prop,(∃ m,W 0 m [] (blk own.length fr σ) H2)/\∀ i m ys σ' H,W i m ys σ' H ->
   (J.stop i H/\Q H ys) ∨
   (J.go i H/\∃ N:List V->St->Hp->Prop,(∀ ys' σ2 H2,N ys' σ2 H2->∃ m',m' < m/\W (i+1) m' ys' σ2 H2) /\
    ∀ x H',J.yld i H x H'->g x σ' H' fun σ2 H2=>tt σ2 H2 fun b H3=>if b=true then te σ2 H3 fun y H4=>ys.length < sizeLine/\N (ys++[y]) σ2 H4 else N ys σ2 H3))
  (hRR:∀ (C D:Addr) (s':Shared) (H':Hp) (ys:List V) (its:Array Value) (m:Str->Option Value),s2.heap.objs.size<=C->s2.heap.objs.size<=D->D≠C->s'.heap.Ns C m->H' C=none->H' D=none->s'.heap.PlainList D its->aZ ys its.toList->ys.length<=sizeLine ->
   Inv X pins σ H' s'->Q H' ys->RR (.ref D) C (.ok .next) s') :
  wpAny (model X.prog X.w) X.A (newList []) (fun acc s₃=>wpAny (model X.prog X.w) X.A (newFunctionEnv scope X.env.globals (eS X.env scope.names []) [] X.env.qual none .none (some X.env)) (fun cenv s₄ =>
   codeAny (model X.prog X.w) X.A (.compStart (.ListComp elt [⟨tg,iter,ifs,0⟩] scope pos) 0 (.ref it) acc { cenv with scope:=relabel scope X.env }) (RR acc cenv.locals) s₄) E s₃) E s2:=by
 obtain ⟨p1,p2,p3,p4,p5,p6,p7⟩:=S.parts
 obtain ⟨W,⟨m0,w0⟩,turn⟩:=w
 refine wpAny_newObj_type (wpAny_newFunctionEnv p2 (by intro y hy; simp at hy) (fun h₁ hns₁ hsb₁=>?_) p1)
 dsimp only at hns₁ hsb₁ ⊢
 generalize hH2:s2.heap.push { cls:=.type "list",dict:=none,data:=.seq ([]:List Value).toArray }=HD at hns₁ hsb₁ ⊢
 have hCs:HD.objs.size=s2.heap.objs.size+1:=by rw [<- hH2,Qz]
 have hDC:s2.heap.objs.size≠HD.objs.size:=by omega
 have hCle:s2.heap.objs.size<=HD.objs.size:=by omega
 have below:∀ b,b < s2.heap.objs.size->b≠HD.objs.size/\b≠s2.heap.objs.size:=fun b hb=>⟨by omega,by omega⟩
 have old:∀ b o,s2.heap.get? b=some o->h₁.get? b=some o:=fun b o e=>hsb₁.extBut b o (below b (Ql e)).1 (Qa _ (hH2 ▸ Qa _ e))
 have hacc:h₁.get? s2.heap.objs.size=some { cls:=.type "list",data:=.seq ([]:List Value).toArray }:=hsb₁.extBut _ _ hDC (Qa _ (hH2 ▸ Qe _ rfl))
 have flt:∀ b∈fp,b < s2.heap.objs.size:=fun b hb=>by
  obtain ⟨o,e,_⟩:=T.obj _ _ st2 b hb
  exact Ql e
 generalize hDg:s2.heap.objs.size=D at *
 generalize hCg:HD.objs.size=C at *
 have st3:tn 0 h₁:=T.keep _ _ _ st2 fun b _ o e=>old b o e
 -- facts of the block
 have clsub:∀ x c,(eS X.env scope.names []).lookup x=some c->X.env.cells.lookup x=some c:=fun x c e=>by
  rcases jV _ _ _ _ (hU e) with q | q
  ·cases q
  ·exact q
 have cD:∀ x c,(eS X.env scope.names []).lookup x=some c->c≠D:=fun x c e z=>by
  obtain ⟨v,q⟩:=I2.cell x c (clsub x c e)
  exact Jb _ (Qp q.lt (by rw [hDg,z]; exact Qi _))
 have loop:∀ s₃:Shared,s₃={ s2 with heap:=h₁,toks:=s2.toks+([]:List (Str×Value)).length } ->
   codeAny (model X.prog X.w) X.A (.compLoop (.ListComp elt [⟨tg,iter,ifs,0⟩] scope pos) 0 (.ref it) (.ref D) (compEnvC scope (eS X.env scope.names []) C X.env)) (RR (.ref D) C) s₃:=by
  rintro s₃ rfl
  have I3:Inv (cF X scope (own++frn) C s2 H2 fp) [(D,_)] (blk own.length fr σ) H2 { s2 with heap:=h₁,toks:=s2.toks+([]:List (Str×Value)).length } :=
   aBr (m:=fun _=>none) I2 S f2 (by rw [hDg]; exact flt) (by rw [hDg]; exact hCle) (hns₁:h₁.Ns C _) old (by rw [hDg]; exact Qi _) hDC hacc (fun v z=>by cases z)
  have stat:∀ {H':Hp} {pl:List (Addr×Obj)},(∀ p∈pl,p.1=D)->(∀ b∈fp,H' b=none)->∀ b∈fp,oS (cF X scope (own++frn) C s2 H2 fp) pl H' b:=fun {H' pl} hpl hn b hb=>by
   refine ⟨hn b hb,(below b (flt b hb)).1,fun z=>?_,.inl hb,fun x c e=>(f2 b hb).2.2.2.2.1 x c (clsub x c e),fun p hp=>?_⟩
   ·have z':b∈frs X.stack:=z
    rcases Qk.mp (I2.stkSub b z') with e | e
    ·exact (f2 b hb).2.1 e
    ·exact (f2 b hb).2.2.1 e
   ·have hp':p∈pl:=by simpa [cF] using hp
    rw [hpl p hp']
    exact Ne.symm (below b (flt b hb)).2
  refine vC (env:=compEnvC scope (eS X.env scope.names []) C X.env) (fun n s'=>∃ i σ' H' ys its o,Inv (cF X scope (own++frn) C s2 H2 fp) [(D,o)] σ' H' s'/\s'.heap.PlainList D its/\aZ ys its.toList/\ys.length<=sizeLine/\tn i s'.heap/\(∀ b∈fp,H' b=none)/\W i n ys σ' H') ?_ m0
   ⟨0,_,H2,[],#[],_,I3,⟨_,hacc⟩,.nil,Jm _,st3,fun b hb=>(f2 b hb).1,w0⟩
  rintro n s5 ⟨i,σ5,H5,ys,its,o,I5,pl5,v5,z5,st5,fr5,w5⟩
  have one:∀ {o:Obj},∀ p∈[(D,o)],p.1=D:=fun p hp=>by
   have e:=Qr.mp hp
   rw [e]
  rcases turn i n ys σ5 H5 w5 with ⟨stop,qn⟩ | ⟨go,N,hN,step⟩
  ·refine wpAny_mono (T.done (cF X scope (own++frn) C s2 H2 fp) rfl rfl rfl hc i _ s5 σ5 H5 (fun _ _=>False) I5 (stat one fr5) st5 stop) (fun r s6 hx9=>?_) fun _ _ z=>z
   obtain ⟨hr,I6⟩:=hx9
   subst hr
   obtain ⟨m6,hn6,_⟩:=I6.loc
   have p6:=I6.pin (D,o) (by simp [cF])
   have p5':=I5.pin (D,o) (by simp [cF])
   have pl6:s6.heap.PlainList D its:=by
    obtain ⟨k,e⟩:=pl5
    have e1:o=_:=Option.some.inj (p5'.1.symm.trans e)
    exact ⟨k,by rw [p6.1]; exact congrArg some e1⟩
   have IX:Inv X pins σ H5 s6:=I2.call' (ch:=fp) I6.os I6.base I6.hok I6.bare fun b hb=>⟨(f2 b hb).2.2.2.1,(f2 b hb).2.1,(f2 b hb).2.2.2.2.1,(f2 b hb).2.2.2.2.2⟩
   exact hRR C D s6 H5 ys its m6 hCle (Qi _) hDC hn6 I6.free p6.2.1 pl6 v5 z5 IX qn
  ·refine wpAny_mono (T.item (cF X scope (own++frn) C s2 H2 fp) rfl rfl rfl hc i _ s5 σ5 H5 (fun _ _=>False) I5 (stat one fr5) st5 go) (fun r s6 hx9=>?_) fun _ _ z=>z
   obtain ⟨u,hr,h6⟩:=hx9
   subst hr
   refine wpAny_mono h6 (fun _ s7 hx9=>?_) fun _ _ z=>z
   obtain ⟨x,H7,I7,r7,y7,st7,fr7⟩:=hx9
   have I7':=I7.pinned (stat one fr7) (T.obj _ _ st7)
   refine wpAny_mono (hg C s2 H2 fp _ s7 σ5 H7 x u _ I7' r7 (step x H7 y7)) (fun _ s8 hx9=>?_) fun _ _ z=>z
   obtain ⟨σ8,H8,I8,q8⟩:=hx9
   refine wpAny_mono (ht C s2 H2 fp _ s8 σ8 H8 _ I8 q8) (fun b s9 hx9=>?_) fun _ _ z=>z
   obtain ⟨H9,I9,q9⟩:=hx9
   -- what stands of the iterator and of the gathered list behind the tests,behind the item
   have keepT:∀ {H':Hp} {s':Shared} {σ':St},Inv (cF X scope (own++frn) C s2 H2 fp) ([(D,o)]++oU fp s7.heap) σ' H' s'->tn (i+1) s'.heap/\(∀ b∈fp,H' b=none)/\s'.heap.PlainList D its/\H' D=none:=fun {H' s' σ'} I'=>by
    refine ⟨T.keep _ _ _ st7 fun b hb o e=>(I'.pin (b,o) (Jc _ (Jc _ (iT hb e)))).1,fun b hb=>?_,?_,?_⟩
    ·obtain ⟨o,e,d⟩:=T.obj _ _ st7 b hb
     exact (I'.pin (b,o) (Jc _ (Jc _ (iT hb e)))).2.1
    ·have p':=I'.pin (D,o) (by simp [cF])
     have p5':=I5.pin (D,o) (by simp [cF])
     obtain ⟨k,e⟩:=pl5
     have e1:o=_:=Option.some.inj (p5'.1.symm.trans e)
     exact ⟨k,by rw [p'.1]; exact congrArg some e1⟩
    ·exact (I'.pin (D,o) (by simp [cF])).2.1
   cases b with
   | false =>
    rw [if_neg Qq] at q9
    rw [if_neg Qq]
    obtain ⟨m',hm,w'⟩:=hN ys σ8 H9 q9
    obtain ⟨t9,fr9,pl9,_⟩:=keepT I9
    exact ⟨m',hm,i+1,σ8,H9,ys,its,o,I9.unpinned,pl9,v5,z5,t9,fr9,w'⟩
   | true =>
    rw [if_pos rfl] at q9
    rw [if_pos rfl]
    refine wpAny_mono (he C s2 H2 fp _ s9 σ8 H9 _ I9 q9) (fun y s10 hx9=>?_) fun _ _ z=>z
    obtain ⟨yv,H10,I10,r10,lt10,q10⟩:=hx9
    obtain ⟨t10,fr10,pl10,hD10⟩:=keepT I10
    have hl:=v5.length
    refine wpAny_list_append_plain pl10 (fun h11 pl11 sb11=>?_) (by rw [<- Array.length_toList,<- hl]; exact Xu lt10)
    obtain ⟨m',hm,w'⟩:=hN _ σ8 H10 q10
    have I10':Inv (cF X scope (own++frn) C s2 H2 fp) [] σ8 H10 s10:=I10.pins_of fun p hp=>by cases hp
    have I11:Inv (cF X scope (own++frn) C s2 H2 fp) [] σ8 H10 { s10 with heap:=h11 } :=
     I10'.turned (t':=s10.toks) (it:=D) (fun b o hb e=>(sb11.2 b hb).trans e) hD10 hDC (.inr (by show s2.heap.objs.size<=D; rw [hDg]; exact Qi _)) cD (fun p hp=>by simp [cF] at hp)
    obtain ⟨k11,e11⟩:=id pl11
    have DfsX:D∉frs X.stack:=fun z=>by
     rcases Qk.mp (I2.stkSub D z) with e | e
     ·exact Jb _ (Qp I2.lt (by rw [hDg,e]; exact Qi _))
     ·exact I2.nofs (by rw [hDg]; exact Qi _) e
    refine ⟨m',hm,i+1,σ8,H10,ys++[yv],its.push y,{ cls:=.type "list",data:=.seq (its.push y) k11 },I11.pins_of fun p hp=>?_,pl11,?_,by rw [Qs]; show ys.length+1<=_; omega,T.keep _ _ _ t10 fun b hb o e=>(sb11.2 b (below b (flt b hb)).2).trans e,fr10,w'⟩
    ·have e:=Qr.mp hp
     subst e
     exact ⟨e11,hD10,hDC,DfsX,fun v z=>by cases z⟩
    ·rw [Array.toList_push]
     exact v5.append (.cons r10 .nil)
 exact codeAny_compStart_list (loop _ rfl) (T.self X.A 0 _ _ _ st3 (loop _ rfl))
theorem CompOk.clo {pins:List (Addr×Obj)} {σ:St} {H:Hp} {s:Shared} (S:CompOk X scope own fr frn) (I:Inv X pins σ H s):closureFor scope X.env=pure (eS X.env scope.names []):=by
 obtain ⟨p1,p2,p3,p4,p5,p6,p7⟩:=S.parts
 exact xR fun y hy e=>I.ok.has y.1 (p4 y hy e)
theorem dX (S:CompOk X scope own fr frn) (hc:X.calm=true) (hi:PI X tg iter wi) (hg:∀ C s0 H0 fp,PG (cF X scope (own++frn) C s0 H0 fp) tg g) (ht:∀ C s0 H0 fp,PF (cF X scope (own++frn) C s0 H0 fp) ifs tt)
  (he:∀ C s0 H0 fp,PE (cF X scope (own++frn) C s0 H0 fp) elt te) (hs:∀ x,foldedSetIterable iter X.env x=pure x:=by intro _; rfl) :
  PE X (.ListComp elt [⟨tg,iter,ifs,0⟩] scope pos) (aDM own.length fr wi g tt te):=by
 intro pins s σ H Q I h
 obtain ⟨p1,p2,p3,p4,p5,p6,p7⟩:=S.parts
 rw [eval_ListComp]
 refine wpAny_comprehension_free (use:=none) rfl hs (S.clo I) p1 p3 (thn (hi pins s σ H _ I h) fun v s1 h1=>thn h1 fun itv s2 h2=>?_)
 obtain ⟨it,fp,tn,J,H2,e,I2,T,st2,f2,hw⟩:=h2
 subst e
 refine pE (RR:=fun acc C=>compPost (model X.prog X.w) X.A X.xe none (EP X pins σ Q) acc C) (Q:=fun H ys=>∀ p,H p=none->Q (.ref p) (upd H p (.lst ys))) S hc I2 T st2 f2 hg ht he hw ?_
 intro C D s' H' ys its m hC hD hDC hns hHC hHD pl v z IX q
 have cne:∀ a,s2.heap.objs.size<=a->∀ x c,X.env.cells.lookup x=some c->c≠a:=fun a ha x c e z=>by
  obtain ⟨v,w⟩:=I2.cell x c e
  exact Jb _ (Qp w.lt (by rw [z]; exact ha))
 have pne:∀ a,s2.heap.objs.size<=a->∀ p∈X.pn++pins,p.1≠a:=fun a ha p hp z=>Jb _ (Qp (Ql (I2.pin p hp).1) (by rw [z]; exact ha))
 have lne:∀ a,s2.heap.objs.size<=a->a≠X.env.locals:=fun a ha z=>Jb _ (Qp I2.lt (by rw [<- z]; exact ha))
 refine ⟨m,hns,fun h' hs'=>⟨.ref D,upd H' D (.lst ys),?_,rfl,q D hHD⟩⟩
 have IT:Inv X pins σ (upd H' D (.lst ys)) s':=IX.track pl v z hHD (lne D hD) (Qx I2.sz hD) (cne D hD) (pne D hD)
 exact IT.turned (t':=s'.toks) (it:=C) (fun b o hb e=>(hs'.2 b hb).trans e) (by rw [aK (Ne.symm hDC)]; exact hHC) (lne C hC) (.inr (Qx I2.sz hC)) (cne C hC) (pne C hC)
theorem pF {i:Nat} {y:Str} {py spos:Pos} (S:CompOk X scope own fr frn) (hc:X.calm=true) (hN:X.N.Nodup) (hyi:X.N[i]?=some y) (hx:X.env.scope.names.lookup y=some .local)
  (hsw:swapsWith (.ListComp elt [⟨tg,iter,ifs,0⟩] scope pos) (some (.Name y py)) spos.line X.env=pure true)
  (hi:PI X tg iter wi) (hg:∀ C s0 H0 fp,PG (cF X scope (own++frn) C s0 H0 fp) tg g) (ht:∀ C s0 H0 fp,PF (cF X scope (own++frn) C s0 H0 fp) ifs tt)
  (he:∀ C s0 H0 fp,PE (cF X scope (own++frn) C s0 H0 fp) elt te) (hs:∀ x,foldedSetIterable iter X.env x=pure x:=by intro _; rfl) :
  PS X (.Assign [.Name y py] (.ListComp elt [⟨tg,iter,ifs,0⟩] scope pos) spos) (lB (aDM own.length fr wi g tt te) (fU i)):=by
 intro pins s σ H D I h
 obtain ⟨p1,p2,p3,p4,p5,p6,p7⟩:=S.parts
 rw [exec_Assign_Name_used _ _ _ _ hsw]
 refine wpAny_bind (wpAny_standAt (wpAny_bind ?_))
 show wpAny _ X.A (do let _<-comprehension (.ListComp elt [⟨tg,iter,ifs,0⟩] scope pos) scope X.env _ (newList []) false (eval iter X.env) (some (assign (.Name y py) X.env))) _ _ s
 refine wpAny_bind (wpAny_mono (wpAny_comprehension_free (use:=some (assign (.Name y py) X.env)) (Q:=fun _ s'=>SP X pins D .next s') rfl hs (S.clo I) p1 p3 (thn (hi pins s σ H _ I h) fun v s1 h1=>thn h1 fun itv s2 h2=>?_))
  (fun _ s' hq=>wpAny_pure (wpAny_pure hq)) fun _ _ e=>e)
 obtain ⟨it,fp,tn,J,H2,e,I2,T,st2,f2,hw⟩:=h2
 subst e
 refine pE (RR:=fun acc C=>compPost (model X.prog X.w) X.A X.xe (some (assign (.Name y py) X.env)) (fun _ s'=>SP X pins D .next s') acc C) (Q:=fun H ys=>∀ p,H p=none->D.nx (σ.set i (some (.ref p))) (upd H p (.lst ys))) S hc I2 T st2 f2 hg ht he hw ?_
 intro C L s' H' ys its m hC hL hLC hns hHC hHL pl v z IX q
 have cne:∀ a,s2.heap.objs.size<=a->∀ x c,X.env.cells.lookup x=some c->c≠a:=fun a ha x c e z=>by
  obtain ⟨v,w⟩:=I2.cell x c e
  exact Jb _ (Qp w.lt (by rw [z]; exact ha))
 have pne:∀ a,s2.heap.objs.size<=a->∀ p∈X.pn++pins,p.1≠a:=fun a ha p hp z=>Jb _ (Qp (Ql (I2.pin p hp).1) (by rw [z]; exact ha))
 have lne:∀ a,s2.heap.objs.size<=a->a≠X.env.locals:=fun a ha z=>Jb _ (Qp I2.lt (by rw [<- z]; exact ha))
 have IT:Inv X pins σ (upd H' L (.lst ys)) s':=IX.track pl v z hHL (lne L hL) (Qx I2.sz hL) (cne L hL) (pne L hL)
 show wpAny _ _ (assign (.Name y py) X.env (.ref L)) _ _ s'
 refine wpAny_assign_Name (mT IT hN hyi (.inl hx) (v:=.ref L) rfl (fun s'' I'' hch=>?_) (.inr hx))
 obtain ⟨a,sb,ha⟩:=hch
 have hCa:C≠a:=by
  rcases ha with e | e
  ·rw [e]; exact lne C hC
  ·exact Ne.symm (cne C hC y a e)
 refine ⟨m,hns.sameBut sb hCa,fun h' hs'=>⟨σ.set i (some (.ref L)),upd H' L (.lst ys),?_,q L hHL⟩⟩
 exact I''.turned (t':=s''.toks) (it:=C) (fun b o hb e=>(hs'.2 b hb).trans e) (by rw [aK (Ne.symm hLC)]; exact hHC) (lne C hC) (.inr (Qx I2.sz hC)) (cne C hC) (pne C hC)
end
inductive Kd where
 | int | bl | non | str | tup | lst | dct
 deriving DecidableEq
def KdV (K:PySem.W.Frag) (H:Hp):V->Kd->Prop
 | .int _,k=>k=.int
 | .bl _,k=>k=.bl
 | .non,k=>k=.non
 | .str _,k=>k=.str
 | .ref p,k=>(k=.lst/\∃ xs,SqL K H p xs)∨(k=.tup/\∃ xs,SqT K H p xs)∨(k=.dct/\∃ kvs,H p=some (.dK kvs))
 | _,_=>False
section
variable {X:Cx}
theorem xT {pins:List (Addr×Obj)} {σ:St} {H:Hp} {s:Shared} {p:Addr} {kvs:List (Key×V)} (I:Inv X pins σ H s) (h:H p=some (.dK kvs)):∃ o,s.heap.get? p=some o/\o.cls=.type "dict" := by
 obtain ⟨_,_,vs,_,o,es,ep,e,ex,_⟩:=I.hok p _ h
 exact ⟨o,e,ex.1⟩
theorem tL:dP X (.builtin "isinstance") (fun xs H Q=>∃ x k,xs = [x,.ty "int"]/\KdV X.K H x k/\Q (.bl (decide (k=.int∨k=.bl))) H):=by
 intro pins s σ H xs us Q I r h
 obtain ⟨x,k,rfl,hk,q⟩:=h
 obtain ⟨u,t,rfl,rx,rt⟩:=lF r
 cases rt
 cases x with
 | int i=>cases hk; obtain ⟨t,rfl⟩:=rx; exact IsiPair.int_int ⟨.bl true,H,I,rfl,q⟩
 | bl b=>cases hk; cases rx; exact IsiPair.bool_int ⟨.bl true,H,I,rfl,q⟩
 | non=>cases hk; cases rx; exact IsiPair.NoneType_int ⟨.bl false,H,I.tok _,rfl,q⟩
 | str y=>cases hk; obtain ⟨t,rfl⟩:=rx; exact IsiPair.str_int ⟨.bl false,H,I.tok _,rfl,q⟩
 | ref p =>
  cases rx
  rcases hk with ⟨rfl,xs,hx⟩ | ⟨rfl,xs,hx⟩ | ⟨rfl,kvs,hx⟩
  ·obtain ⟨its,r',pl,hz⟩:=I.list hx; exact IsiPair.isList_int pl.isList (fun _ _ e=>e) ⟨.bl false,H,I.tok _,rfl,q⟩
  ·obtain ⟨its,r',pl,hz⟩:=I.tuple hx; exact IsiPair.isTuple_int pl (fun _ _ e=>e) ⟨.bl false,H,I.tok _,rfl,q⟩
  ·obtain ⟨o,e,c⟩:=xT I hx; exact IsiPair.dict_int e c ⟨.bl false,H,I.tok _,rfl,q⟩
 | _=>exact hk.elim
theorem rA:dP X (.builtin "isinstance") (fun xs H Q=>∃ x k,xs = [x,.ty "bool"]/\KdV X.K H x k/\Q (.bl (decide (k=.bl))) H):=by
 intro pins s σ H xs us Q I r h
 obtain ⟨x,k,rfl,hk,q⟩:=h
 obtain ⟨u,t,rfl,rx,rt⟩:=lF r
 cases rt
 cases x with
 | int i=>cases hk; obtain ⟨t,rfl⟩:=rx; exact IsiPair.int_bool ⟨.bl false,H,I.tok _,rfl,q⟩
 | bl b=>cases hk; cases rx; exact IsiPair.bool_bool ⟨.bl true,H,I,rfl,q⟩
 | non=>cases hk; cases rx; exact IsiPair.NoneType_bool ⟨.bl false,H,I.tok _,rfl,q⟩
 | str y=>cases hk; obtain ⟨t,rfl⟩:=rx; exact IsiPair.str_bool ⟨.bl false,H,I.tok _,rfl,q⟩
 | ref p =>
  cases rx
  rcases hk with ⟨rfl,xs,hx⟩ | ⟨rfl,xs,hx⟩ | ⟨rfl,kvs,hx⟩
  ·obtain ⟨its,r',pl,hz⟩:=I.list hx; exact IsiPair.isList_bool pl.isList (fun _ _ e=>e) ⟨.bl false,H,I.tok _,rfl,q⟩
  ·obtain ⟨its,r',pl,hz⟩:=I.tuple hx; exact IsiPair.isTuple_bool pl (fun _ _ e=>e) ⟨.bl false,H,I.tok _,rfl,q⟩
  ·obtain ⟨o,e,c⟩:=xT I hx; exact IsiPair.dict_bool e c ⟨.bl false,H,I.tok _,rfl,q⟩
 | _=>exact hk.elim
theorem cS:dP X (.builtin "isinstance") (fun xs H Q=>∃ x k,xs = [x,.ty "tuple"]/\KdV X.K H x k/\Q (.bl (decide (k=.tup))) H):=by
 intro pins s σ H xs us Q I r h
 obtain ⟨x,k,rfl,hk,q⟩:=h
 obtain ⟨u,t,rfl,rx,rt⟩:=lF r
 cases rt
 cases x with
 | int i=>cases hk; obtain ⟨t,rfl⟩:=rx; exact IsiPair.int_tuple ⟨.bl false,H,I.tok _,rfl,q⟩
 | bl b=>cases hk; cases rx; exact IsiPair.bool_tuple ⟨.bl false,H,I.tok _,rfl,q⟩
 | non=>cases hk; cases rx; exact IsiPair.NoneType_tuple ⟨.bl false,H,I.tok _,rfl,q⟩
 | str y=>cases hk; obtain ⟨t,rfl⟩:=rx; exact IsiPair.str_tuple ⟨.bl false,H,I.tok _,rfl,q⟩
 | ref p =>
  cases rx
  rcases hk with ⟨rfl,xs,hx⟩ | ⟨rfl,xs,hx⟩ | ⟨rfl,kvs,hx⟩
  ·obtain ⟨its,r',pl,hz⟩:=I.list hx; exact IsiPair.isList_tuple pl.isList (fun _ _ e=>e) ⟨.bl false,H,I.tok _,rfl,q⟩
  ·obtain ⟨its,r',pl,hz⟩:=I.tuple hx; exact IsiPair.isTuple_tuple pl (fun _ _ e=>e) ⟨.bl true,H,I,rfl,q⟩
  ·obtain ⟨o,e,c⟩:=xT I hx; exact IsiPair.dict_tuple e c ⟨.bl false,H,I.tok _,rfl,q⟩
 | _=>exact hk.elim
theorem aAG (bs:List Bool) (tr:Nat->Bool) (h:∀ i b,bs[i]?=some b->tr i=b):(List.range bs.length).all tr=bs.all id:=by
 rw [Xq,Ja,Ja]
 constructor
 ·intro q b hb
  obtain ⟨i,hi⟩:=List.getElem?_of_mem hb
  have:=q i (Xf.mpr (Qc.mp hi).1)
  rw [h i b hi] at this
  exact this
 ·intro q i hi
  have hi':=Xf.mp hi
  have e:bs[i]?=some bs[i]:=Qd hi'
  rw [h i _ e]
  exact q _ (Xv hi')
theorem jY (hc:X.calm=true):dP X (.builtin "all") (fun xs H Q=>∃ (p:Addr) (bs:List Bool),xs = [.ref p]/\SqL X.K H p (bs.map V.bl)/\Q (.bl (bs.all id)) H):=by
 intro pins s σ H xs us Q I r h
 obtain ⟨p,bs,rfl,hx,q⟩:=h
 obtain ⟨u,rfl,rx⟩:=gG r
 cases rx
 obtain ⟨its,rv,pl,hz⟩:=I.list hx
 have hl:=rv.length
 rw [Qb] at hl
 have hlt:p < s.heap.objs.size:=by obtain ⟨o,n,e,_⟩:=pl; exact Ql e
 refine call_all_walk (wpAny_pyIter_list pl.isList ?_)
 refine ⟨s.heap.objs.size,_,_,_,_,_,fun i=>(bs[i]?).getD false,rfl,Walks.list (A:=X.A.in1) (I.ok.hd hc) s.heap.objs.size p (Qt hlt) its.toArray,⟨⟨_,Qe _ rfl,rfl,rfl⟩,pl.isList.push _⟩,?_,fun h' tk hk=>?_⟩
 ·intro i v s' Q' E' hP hQ'
  have hP':its[i]?=some v:=by simpa using hP
  have hi:i < bs.length:=by rw [hl]; exact (Qc.mp hP').1
  obtain ⟨w,hw,rw'⟩:=rv.get (i:=i) (x:=.bl bs[i]) (by rw [Qh,Qd hi]; rfl)
  rw [hw] at hP'
  cases hP'
  cases rw'
  have e:(bs[i]?).getD false=bs[i]:=by rw [Qd hi]; rfl
  rw [<- e]
  exact wpAny_truthy_bool hQ'
 ·have e:(List.range its.toArray.size).all (fun i=>(bs[i]?).getD false)=bs.all id:=by
   rw [Qg,<- hl]
   exact aAG bs _ fun i b hb=>by rw [hb]; rfl
  rw [e]
  refine ⟨.bl _,H,I.kept (h':=h') fun b o e=>hk b o ?_ (Qa _ e),rfl,q⟩
  intro z
  have z':b=s.heap.objs.size:=by simpa using z
  exact Jb _ (z' ▸ Ql e)
def bU (ns:List Int):Int:=ns.foldr (· + ·) 0
theorem jZ (ns:List Int) (val:Nat->Int) (h:∀ (i:Nat) (v:Int),ns[i]?=some v->val i=v):∀ j,j<=ns.length->preSum val j=bU (ns.take j)
 | 0,_=>rfl
 | j+1,hj=>by
  have ih:=jZ ns val h j (by omega)
  have e:ns[j]?=some ns[j]:=Qd (by omega)
  show preSum val j+val j=_
  rw [ih,h j _ e,Jz,e]
  unfold bU
  rw [List.foldr_append]
  simp only [Option.toList_some,List.foldr_cons,List.foldr_nil,Int.add_zero]
  generalize ns[j]=v
  induction (List.take j ns) with
  | nil=>simp
  | cons a l ih2=>simp only [List.foldr_cons]; omega
theorem aBt (hc:X.calm=true):dP X (.builtin "sum") (fun xs H Q=>∃ (p:Addr) (ns:List Int),xs = [.ref p]/\SqL X.K H p (ns.map V.int)/\(∀ n∈ns,0<=n/\n < 1000000)/\ns.length<=1000000/\Q (.int (bU ns)) H):=by
 intro pins s σ H xs us Q I r h
 obtain ⟨p,ns,rfl,hx,hb,hlen,q⟩:=h
 obtain ⟨u,rfl,rx⟩:=gG r
 cases rx
 obtain ⟨its,rv,pl,hz⟩:=I.list hx
 have hl:=rv.length
 rw [Qb] at hl
 have hlt:p < s.heap.objs.size:=by obtain ⟨o,n,e,_⟩:=pl; exact Ql e
 have hval:∀ (i:Nat) (v:Int),ns[i]?=some v->(ns[i]?).getD 0=v:=fun i v e=>by rw [e]; rfl
 have bnd:∀ (ms:List Int),(∀ n∈ms,0<=n/\n < 1000000)->0<=bU ms/\bU ms<=ms.length*1000000:=fun ms=>by
  induction ms with
  | nil=>intro _; exact ⟨Wc _,Wc _⟩
  | cons a l ih =>
   intro hh
   have h1:=hh a Qo
   have h2:=ih fun n hn=>hh n (Qm _ hn)
   have e:bU (a::l)=a+bU l:=rfl
   rw [e,Jk]
   rw [Int.natCast_add]
   omega
 refine call_sum_walk (wpAny_pyIter_list pl.isList ?_)
 refine ⟨s.heap.objs.size,_,_,_,_,_,fun i=>(ns[i]?).getD 0,rfl,Walks.list (A:=X.A.in1) (I.ok.hd hc) s.heap.objs.size p (Qt hlt) its.toArray,⟨⟨_,Qe _ rfl,rfl,rfl⟩,pl.isList.push _⟩,?_,?_,?_,fun h' tk t' hk=>?_⟩
 ·intro b hb'
  rw [Qz]
  rcases Qk.mp hb' with e | e
  ·rw [e]; exact Zf _
  ·have e':b=p:=by simpa using e
   rw [e']; exact Jy hlt
 ·intro i v hP
  have hP':its[i]?=some v:=by simpa using hP
  have hi:i < ns.length:=by rw [hl]; exact (Qc.mp hP').1
  obtain ⟨w,hw,rw'⟩:=rv.get (i:=i) (x:=.int ns[i]) (by rw [Qh,Qd hi]; rfl)
  rw [hw] at hP'
  cases hP'
  obtain ⟨t,rfl⟩:=rw'
  exact ⟨t,by show Value.int ns[i] t=Value.int ((ns[i]?).getD 0) t; rw [Qd hi]; rfl⟩
 ·intro j hj
  have hj':j < ns.length:=by rw [hl]; simpa using hj
  have e:ns[j]?=some ns[j]:=Qd hj'
  have h1:=hb _ (Xv hj')
  have h2:=bnd (ns.take (j+1)) fun n hn=>hb n (Yo hn)
  rw [jZ ns _ hval (j+1) (by omega)]
  have h3:(ns.take (j+1)).length<=1000000:=by rw [Jd]; omega
  unfold InLong
  have e5:(fun i:Nat=>(ns[i]?).getD 0) j=ns[j]:=by show (ns[j]?).getD 0=_; rw [e]; rfl
  rw [e5]
  have h4:((ns.take (j+1)).length:Int)*1000000<=1000000*1000000:=by omega
  omega
 ·have e:preSum (fun i=>(ns[i]?).getD 0) its.toArray.size=bU ns:=by
   rw [Qg,<- hl,jZ ns _ hval ns.length (Qi _),Xk]
  rw [e]
  refine ⟨.int _,H,I.kept (h':=h') fun b o e=>hk b o ?_ (Qa _ e),⟨_,rfl⟩,q⟩
  intro z
  have z':b=s.heap.objs.size:=by simpa using z
  exact Jb _ (z' ▸ Ql e)
end
mutual
def Den (K:PySem.W.Frag) (H:Hp):PyData->V->Prop
 | .none,v=>v=.non
 | .bool b,v=>v=.bl b
 | .int i,v=>v=.int i
 | .str x,v=>v=.str x
 | .list ds,v=>∃ a xs,v=.ref a/\SqL K H a xs/\aU K H ds xs
 | .tuple ds,v=>∃ a xs,v=.ref a/\SqT K H a xs/\aU K H ds xs
 | .dict kvs,v=>kvs = []/\∃ a,v=.ref a/\H a=some (.dK [])
def aU (K:PySem.W.Frag) (H:Hp):List PyData->List V->Prop
 | [],xs=>xs = []
 | d::ds,xs=>∃ x r,xs=x::r/\Den K H d x/\aU K H ds r
end
theorem aF.rd {H H':Hp} {a:Addr} {u:HO} (e:aF H H') (h:Rd H a u):Rd H' a u:=by
 rcases h with h | ⟨o,h⟩
 ·exact .inl (e a u h)
 ·exact .inr ⟨o,e a _ h⟩
theorem aF.seqL {K:PySem.W.Frag} {H H':Hp} {a:Addr} {xs:List V} (e:aF H H') (h:SqL K H a xs):SqL K H' a xs:=by
 rcases h with h | h
 ·exact .inl (e.rd h)
 ·exact .inr h
theorem aF.seqT {K:PySem.W.Frag} {H H':Hp} {a:Addr} {xs:List V} (e:aF H H') (h:SqT K H a xs):SqT K H' a xs:=by
 rcases h with h | h
 ·exact .inl (e.rd h)
 ·exact .inr h
theorem aF.new {H:Hp} {p:Addr} {o:HO} (h:H p=none):aF H (upd H p o):=fun b u e=>by rw [aK (fV e h)]; exact e
mutual
theorem aF.den {K:PySem.W.Frag} {H H':Hp} (e:aF H H'):∀ (d:PyData) (v:V),Den K H d v->Den K H' d v
 | .none,v,h=>by unfold Den at h ⊢; exact h
 | .bool b,v,h=>by unfold Den at h ⊢; exact h
 | .int i,v,h=>by unfold Den at h ⊢; exact h
 | .str x,v,h=>by unfold Den at h ⊢; exact h
 | .list ds,v,h=>by unfold Den at h ⊢; obtain ⟨a,xs,h1,h2,h3⟩:=h; exact ⟨a,xs,h1,e.seqL h2,aF.denAll e ds xs h3⟩
 | .tuple ds,v,h=>by unfold Den at h ⊢; obtain ⟨a,xs,h1,h2,h3⟩:=h; exact ⟨a,xs,h1,e.seqT h2,aF.denAll e ds xs h3⟩
 | .dict kvs,v,h=>by unfold Den at h ⊢; obtain ⟨h1,a,h2,h3⟩:=h; exact ⟨h1,a,h2,e a _ h3⟩
theorem aF.denAll {K:PySem.W.Frag} {H H':Hp} (e:aF H H'):∀ (ds:List PyData) (xs:List V),aU K H ds xs->aU K H' ds xs
 | [],xs,h=>by unfold aU at h ⊢; exact h
 | d::ds,xs,h=>by unfold aU at h ⊢; obtain ⟨x,r,h1,h2,h3⟩:=h; exact ⟨x,r,h1,aF.den e d x h2,aF.denAll e ds r h3⟩
end
section
variable {K:PySem.W.Frag} {H:Hp}
theorem bQ {i:Int} {v:V}:Den K H (.int i) v↔v=.int i:=by unfold Den; exact Iff.rfl
theorem pG {b:Bool} {v:V}:Den K H (.bool b) v↔v=.bl b:=by unfold Den; exact Iff.rfl
theorem gR {v:V}:Den K H .none v↔v=.non:=by unfold Den; exact Iff.rfl
theorem kW {x:Str} {v:V}:Den K H (.str x) v↔v=.str x:=by unfold Den; exact Iff.rfl
theorem gS {ds:List PyData} {v:V}:Den K H (.list ds) v↔∃ a xs,v=.ref a/\SqL K H a xs/\aU K H ds xs:=by
 constructor
 ·intro h; unfold Den at h; exact h
 ·intro h; unfold Den; exact h
theorem bE {ds:List PyData} {v:V}:Den K H (.tuple ds) v↔∃ a xs,v=.ref a/\SqT K H a xs/\aU K H ds xs:=by
 constructor
 ·intro h; unfold Den at h; exact h
 ·intro h; unfold Den; exact h
theorem pH {kvs:List (PyData×PyData)} {v:V}:Den K H (.dict kvs) v↔kvs = []/\∃ a,v=.ref a/\H a=some (.dK []):=by
 constructor
 ·intro h; unfold Den at h; exact h
 ·intro h; unfold Den; exact h
theorem aV {xs:List V}:aU K H [] xs↔xs = []:=by unfold aU; exact Iff.rfl
theorem aP {d:PyData} {ds:List PyData} {xs:List V}:aU K H (d::ds) xs↔∃ x r,xs=x::r/\Den K H d x/\aU K H ds r:=by
 constructor
 ·intro h; unfold aU at h; exact h
 ·intro h; unfold aU; exact h
theorem aN:∀ {ds:List PyData} {xs:List V},aU K H ds xs->xs.length=ds.length
 | [],xs,h=>by rw [aV.mp h]; rfl
 | d::ds,xs,h=>by
  obtain ⟨x,r,rfl,_,h3⟩:=aP.mp h
  rw [Jk,Jk,aN h3]
theorem pI:∀ {ds:List PyData} {xs:List V} {i:Nat} {d:PyData},aU K H ds xs->ds[i]?=some d->∃ x,xs[i]?=some x/\Den K H d x
 | [],_,_,_,_,e=>by simp at e
 | d::ds,xs,0,d',h,e=>by
  obtain ⟨x,r,rfl,h2,_⟩:=aP.mp h
  simp at e; subst e
  exact ⟨x,rfl,h2⟩
 | d::ds,xs,i+1,d',h,e=>by
  obtain ⟨x,r,rfl,_,h3⟩:=aP.mp h
  obtain ⟨y,h4,h5⟩:=pI (i:=i) (d:=d') h3 (by simpa using e)
  exact ⟨y,by simpa using h4,h5⟩
theorem cC {ds:List PyData} {xs:List V} {i:Nat} {x:V} (h:aU K H ds xs) (e:xs[i]?=some x):∃ d,ds[i]?=some d/\Den K H d x:=by
 have hl:=aN h
 have hi:i < ds.length:=by rw [<- hl]; exact (Qc.mp e).1
 obtain ⟨y,h1,h2⟩:=pI h (Qd hi)
 rw [e] at h1; cases h1
 exact ⟨_,Qd hi,h2⟩
theorem aY:∀ {ds es:List PyData} {xs ys:List V},aU K H ds xs->aU K H es ys->aU K H (ds++es) (xs++ys)
 | [],es,xs,ys,h,h'=>by rw [aV.mp h]; exact h'
 | d::ds,es,xs,ys,h,h'=>by
  obtain ⟨x,r,rfl,h2,h3⟩:=aP.mp h
  exact aP.mpr ⟨x,r++ys,rfl,h2,aY h3 h'⟩
theorem cJ:∀ {ns:List Int} {xs:List V},aU K H (ns.map PyData.int) xs↔xs=ns.map V.int
 | [],xs=>aV
 | n::ns,xs=>by
  rw [Qu,aP]
  constructor
  ·rintro ⟨x,r,rfl,h2,h3⟩
   rw [bQ.mp h2,cJ.mp h3]
   rfl
  ·intro e
   exact ⟨_,_,e,bQ.mpr rfl,cJ.mpr rfl⟩
theorem cM {ns:List Int} {v:V}:Den K H (.tuple (ns.map .int)) v↔∃ a,v=.ref a/\SqT K H a (ns.map V.int):=by
 rw [bE]
 constructor
 ·rintro ⟨a,xs,rfl,h1,h2⟩
  rw [cJ.mp h2] at h1
  exact ⟨a,rfl,h1⟩
 ·rintro ⟨a,rfl,h⟩
  exact ⟨a,_,rfl,h,cJ.mpr rfl⟩
theorem nB {ns:List Int} {v:V}:Den K H (.list (ns.map .int)) v↔∃ a,v=.ref a/\SqL K H a (ns.map V.int):=by
 rw [gS]
 constructor
 ·rintro ⟨a,xs,rfl,h1,h2⟩
  rw [cJ.mp h2] at h1
  exact ⟨a,rfl,h1⟩
 ·rintro ⟨a,rfl,h⟩
  exact ⟨a,_,rfl,h,cJ.mpr rfl⟩
def iU:PyData->Kd
 | .none=>.non | .bool _=>.bl | .int _=>.int | .str _=>.str | .list _=>.lst | .tuple _=>.tup | .dict _=>.dct
theorem Den.kd {d:PyData} {v:V} (h:Den K H d v):KdV K H v (iU d):=by
 cases d with
 | none=>rw [gR.mp h]; rfl
 | bool b=>rw [pG.mp h]; rfl
 | int i=>rw [bQ.mp h]; rfl
 | str x=>rw [kW.mp h]; rfl
 | list ds=>obtain ⟨a,xs,rfl,h1,_⟩:=gS.mp h; exact .inl ⟨rfl,xs,h1⟩
 | tuple ds=>obtain ⟨a,xs,rfl,h1,_⟩:=bE.mp h; exact .inr (.inl ⟨rfl,xs,h1⟩)
 | dict kvs=>obtain ⟨_,a,rfl,h1⟩:=pH.mp h; exact .inr (.inr ⟨rfl,[],h1⟩)
end
section
variable {X:Cx} {pins:List (Addr×Obj)} {σ:St} {H:Hp} {s:Shared}
mutual
def eF:PyData->Bool
 | .dict _=>false
 | .list ds=>iV ds
 | .tuple ds=>iV ds
 | _=>true
def iV:List PyData->Bool
 | []=>true
 | d::ds=>eF d && iV ds
end
mutual
theorem Den.reads (I:Inv X pins σ H s):∀ (d:PyData) (v:V) (u:Value),eF d=true->Den X.K H d v->bJ v u->∃ as,Reads s.heap u d as
 | .none,v,u,_,h,r=>by rw [gR.mp h] at r; cases r; exact ⟨_,.none⟩
 | .bool b,v,u,_,h,r=>by rw [pG.mp h] at r; cases r; exact ⟨_,.bool b⟩
 | .int i,v,u,_,h,r=>by rw [bQ.mp h] at r; obtain ⟨t,rfl⟩:=r; exact ⟨_,.int i t⟩
 | .str x,v,u,_,h,r=>by rw [kW.mp h] at r; obtain ⟨t,rfl⟩:=r; exact ⟨_,.str x t⟩
 | .list ds,v,u,hn,h,r=>by
  obtain ⟨a,xs,rfl,h1,h2⟩:=gS.mp h
  cases r
  obtain ⟨its,rv,⟨o,n,e,c,_,d⟩,_⟩:=I.list h1
  obtain ⟨as,ra⟩:=aU.reads I ds xs its (by unfold eF at hn; exact hn) h2 rv
  exact ⟨_,.list e c d (by simpa using ra)⟩
 | .tuple ds,v,u,hn,h,r=>by
  obtain ⟨a,xs,rfl,h1,h2⟩:=bE.mp h
  cases r
  obtain ⟨its,rv,⟨o,e,c,n,d⟩,_⟩:=I.tuple h1
  obtain ⟨as,ra⟩:=aU.reads I ds xs its (by unfold eF at hn; exact hn) h2 rv
  exact ⟨_,.tuple e c d (by simpa using ra)⟩
 | .dict kvs,v,u,hn,_,_=>by unfold eF at hn; cases hn
theorem aU.reads (I:Inv X pins σ H s):∀ (ds:List PyData) (xs:List V) (us:List Value),iV ds=true->aU X.K H ds xs->aZ xs us->∃ as,ReadsAll s.heap us ds as
 | [],xs,us,_,h,r=>by rw [aV.mp h] at r; cases r; exact ⟨_,.nil⟩
 | d::ds,xs,us,hn,h,r=>by
  obtain ⟨x,rr,rfl,h2,h3⟩:=aP.mp h
  unfold iV at hn
  rw [Qv] at hn
  cases r with
  | cons r1 r2 =>
   obtain ⟨as,ra⟩:=Den.reads I d x _ hn.1 h2 r1
   obtain ⟨bs,rb⟩:=aU.reads I ds rr _ hn.2 h3 r2
   exact ⟨_,.cons ra rb⟩
end
theorem aEj (hu:X.A.units+64 < cLine):OpR X (compareOp .Eq) (fun x y H Q=>∃ d e,Den X.K H d x/\Den X.K H e y/\eF d=true/\eF e=true/\SeqAt.shaped d=true/\SeqAt.shaped e=true/\Q (.bl (PyData.eqv d e)) H):=by
 intro pins s σ H x y v u Q I rx ry h
 obtain ⟨d,e,hd,he,n1,n2,s1,s2,q⟩:=h
 obtain ⟨as,ra⟩:=Den.reads I d x v n1 hd rx
 obtain ⟨bs,rb⟩:=Den.reads I e y u n2 he ry
 exact eq_dataH ra rb s1 s2 hu ⟨.bl _,H,I,rfl,q⟩
theorem aBu (hu:X.A.units+64 < cLine):OpR X (compareOp .NotEq) (fun x y H Q=>∃ d e,Den X.K H d x/\Den X.K H e y/\eF d=true/\eF e=true/\SeqAt.shaped d=true/\SeqAt.shaped e=true/\Q (.bl (!PyData.eqv d e)) H):=by
 intro pins s σ H x y v u Q I rx ry h
 obtain ⟨d,e,hd,he,n1,n2,s1,s2,q⟩:=h
 obtain ⟨as,ra⟩:=Den.reads I d x v n1 hd rx
 obtain ⟨bs,rb⟩:=Den.reads I e y u n2 he ry
 exact ne_dataH ra rb s1 s2 hu ⟨.bl _,H,I,rfl,q⟩
end
section
variable {prog:Program} {w:World} {A:Around} {E:Value->Shared->Prop} {s:Shared}
theorem pJ {x:Value} {Q:List Value->Shared->Prop}
  (h:∀ R:Result->Shared->Prop,(∀ (s':Shared) (acc:Array Value) (c:Nat),s'.heap.get? s.heap.objs.size=some { cls:=.type "list",data:=.seq acc c }->Q acc.toList s'->R (.ok (.ret (.ref s.heap.objs.size))) s') ->
   wpAny (model prog w) A.in1 (Builtin.List.listExtendWith (.ref s.heap.objs.size) x (.ref s.heap.objs.size))
    (fun fin s'=>match fin with | .done f=>R (.ok f) s' | .again c'=>c'.quiet=true/\codeAny (model prog w) A c' R s') (fun e s'=>R (.error e) s') { s with heap:=s.heap.push { cls:=.type "list",data:=.seq ([]:List Value).toArray } }) :
  wpAny (model prog w) A (collect x) Q E s:=by
 unfold collect
 refine wpAny_bind (wpAny_runValue (codeAny_builtin PySem.F.entry_proto_collect ?_))
 rw [Around.under_plainId PySem.F.plain_proto_collect _]
 show wpAny _ A.in1 (newList [] >>= fun l=>again (.builtin "list.__iadd__" ⟨[l,x],[]⟩)) _ _ s
 refine wpAny_bind (wpAny_newObj_type ?_)
 refine wpAny_pure ⟨plainId_quiet PySem.F.plain_list_iadd _,codeAny_builtin PySem.F.entry_list_iadd ?_⟩
 rw [Around.under_plainId PySem.F.plain_list_iadd _]
 show wpAny _ A.in1 (Builtin.List.listExtendWith (.ref s.heap.objs.size) x (.ref s.heap.objs.size)) _ _ _
 have fin':∀ (s':Shared) (acc:Array Value) (c:Nat),s'.heap.get? s.heap.objs.size=some { cls:=.type "list",data:=.seq acc c }->Q acc.toList s'->wpAny (model prog w) A (match Value.ref s.heap.objs.size with
   | Value.ref a => do
     match (<- load a).data with
      | Data.seq xs _=>pure xs.toList
      | _=>unsupported "internal:collect"
   | _=>unsupported "internal:collect") Q E s':=by
  intro s' acc c e q
  show wpAny _ A (load s.heap.objs.size >>= _) _ _ _
  exact wpAny_bind (wpAny_load e (wpAny_pure q))
 refine wpAny_mono (h (fun r s'=>r=.ok (.ret (.ref s.heap.objs.size))/\∃ acc c,s'.heap.get? s.heap.objs.size=some { cls:=.type "list",data:=.seq acc c }/\Q acc.toList s') (fun s' acc c e q=>⟨rfl,acc,c,e,q⟩)) (fun fin s' h=>?_) (fun e s' h=>?_)
 ·cases fin with
  | done f =>
   obtain ⟨e,acc,c,e2,q⟩:=h
   cases e
   exact fin' s' acc c e2 q
  | again c'=>exact ⟨h.1,codeAny_mono h.2 fun r s'' hr=>by obtain ⟨rfl,acc,c,e2,q⟩:=hr; exact fin' s'' acc c e2 q⟩
 ·exact absurd h.1 (by simp)
theorem rB {r:Addr} {a b:Int} {t u v:Tok} {n:Nat} {Q:List Value->Shared->Prop} (hh:A.handled=none) (hr:IsRange s.heap r a b 1 t u v) (hsmall:Builtin.Range.small a b 1=true)
  (hn:Builtin.Range.rangeSize a b 1=n) (hlen:n<=2^24)
  (h:∀ h' tk vs,(∀ b o,s.heap.get? b=some o->h'.get? b=some o)->IntsAre vs ((List.range n).map fun (i:Nat)=>a+(i:Int))->Q vs { s with heap:=h',toks:=tk }):wpAny (model prog w) A (collect (.ref r)) Q E s:=by
 refine pJ fun R hR=>?_
 have hr':IsRange (s.heap.push { cls:=.type "list",data:=.seq ([]:List Value).toArray }) r a b 1 t u v:=Qa _ hr
 refine wpAny_extend_range (s:={ s with heap:=s.heap.push { cls:=.type "list",data:=.seq ([]:List Value).toArray } }) hh hr' hsmall hn hlen s.heap.objs.size (.ref s.heap.objs.size) 0 (Qe _ rfl) fun h' tk acc' c' kp e it=>?_
 refine hR { s with heap:=h',toks:=tk } acc' c' e (h h' tk acc'.toList (fun b o q=>kp b o (Qt (Ql q)) (Qa _ q)) ?_)
 obtain ⟨hs,hi⟩:=it
 -- the items one by one
 have key:∀ (k:Nat) (l:List Value) (m:Nat),l.length=k->(∀ (j:Nat) (v:Value),l[j]?=some v->∃ t,v=Value.int (a+((m+j:Nat):Int)) t)->IntsAre l ((List.range' m k).map fun (i:Nat)=>a+(i:Int)):=by
  intro k
  induction k with
  | zero=>intro l m hl _; rw [Zi.mp hl]; exact .nil
  | succ k ih =>
   intro l m hl hv
   cases l with
   | nil=>simp at hl
   | cons v l =>
    obtain ⟨t,e⟩:=hv 0 v rfl
    rw [List.range'_succ,Qu,e]
    exact .cons _ t (ih l (m+1) (by simpa using hl) fun j v' hj=>by
     obtain ⟨t',e'⟩:=hv (j+1) v' (by simpa using hj)
     exact ⟨t',by rw [e',show m+(j+1)=m+1+j by omega]⟩)
 have:=key n acc'.toList 0 (by rw [Array.length_toList,hs]) fun j v hj=>by
  obtain ⟨t,e⟩:=hi j v (by simpa using hj)
  exact ⟨t,by rw [e]; first | (congr 1; done) | (congr 1; omega)⟩
 rwa [<- List.range_eq_range'] at this
theorem aAH {x:Value} {ns:List Int} {Q:Value->Shared->Prop} (h64:ns.length < 64)
  (hc:∀ Q':List Value->Shared->Prop,(∀ h' tk vs,(∀ b o,s.heap.get? b=some o->h'.get? b=some o)->IntsAre vs ns->Q' vs { s with heap:=h',toks:=tk })->wpAny (model prog w) A.in1 (collect x) Q' E s)
  (h:∀ (h1 h':Heap) tk out ns',(∀ b o,s.heap.get? b=some o->h1.get? b=some o)->(∀ b o,h1.get? b=some o->h'.get? b=some o)->h'.PlainList h1.objs.size out->IntsAre out.toList ns'->ns'.Perm ns->ns'.Pairwise (·<=·)->Q (.ref h1.objs.size) { s with heap:=h',toks:=tk }) :
  wpAny (model prog w) A (call (.builtin "sorted") [x]) Q E s:=by
 refine Calls.call_function_entry kind_sorted plain_sorted entry_sorted (args_sorted1 _) ?_
 unfold Builtin.«sorted»
 refine wpAny_bind (m:=checkCount "sorted" 1 1 _) (wpAny_pure ?_)
 refine wpAny_bind (hc _ fun h1 tk vs kp hi=>?_)
 have hlen:=hi.length
 refine wpAny_bind (wpAny_newList ?_ (by rw [sizeLine_eq]; omega))
 have hoL:(h1.push (seqObj "list" vs.toArray 0)).get? h1.objs.size=some (seqObj "list" vs.toArray 0):=Qe _ rfl
 refine wpAny_bind (wpAny_holding (wpAny_call_entry slot_list_sort ⟨_,hoL,rfl⟩ entry_list_sort (list_sort_tree hoL hi (by omega) fun out ns' a1 a2 a3=>⟨_,rfl,?_⟩) (args_list_sort _)))
 refine wpAny_pure ⟨_,rfl,?_⟩
 obtain ⟨e,he⟩:=sortedHeap_at (out:=out) hoL
 refine h h1 _ tk out ns' kp (fun b o q=>?_) ⟨e,he⟩ a1 a2 a3
 rw [sortedHeap_old (Qt (Ql q)) (by rw [size_push']; exact Jy (Ql q))]
 exact Qa _ q
end
theorem jL (r:Addr) (a b:Int) (t u v:Tok) (n:Nat) (hsmall:Builtin.Range.small a b 1=true) (hn:Builtin.Range.rangeSize a b 1=n) (hlen:n<=2^24) :
  Meets (Builtin.«tuple.__new__» ⟨[.type "tuple",.ref r],[]⟩)
   (fun A R s=>A.handled=none/\IsRange s.heap r a b 1 t u v/\∀ (h':Heap) tk (vs:List Value),(∀ b o',s.heap.get? b=some o'->h'.get? b=some o')->IntsAre vs ((List.range n).map fun (i:Nat)=>a+(i:Int)) ->
    R (.ok (.ret (.ref h'.objs.size))) { s with heap:=h'.push { cls:=.type "tuple",data:=.seq vs.toArray },toks:=tk }) :=
 .of_wp fun prog w A R s h=>by
  obtain ⟨hp,g,d,tk,os⟩:=s; obtain ⟨hh,ht,h⟩:=h
  have hsub:=sub_tuple_self
  have hinit:=init_tuple_lookup
  have hmh:=madeHere_tuple
  have hT:Shared.TypeIs ⟨hp,g,d,tk,os⟩ (.ref r) "range" := ⟨_,ht,rfl⟩
  wp_walk using wpAny_loadPart' ht,wpAny_typeOf hT,rB (A:=A.in1) (s:=⟨hp,g,d,tk,os⟩) hh ht hsmall hn hlen
  intro h' tk' vs hk hi
  show wpAny _ _ (Builtin.Tuple.tupleExact vs.toArray >>= fun v=>ret v) _ _ _
  unfold Builtin.Tuple.tupleExact
  have hl:=hi.length
  rw [Qb,Zl] at hl
  refine wpAny_bind (wpAny_newObj_type ?_ (by show vs.toArray.size<=sizeLine; rw [Qg,sizeLine_eq]; omega))
  refine wpAny_pure ⟨_,rfl,?_⟩
  exact h h' tk' vs hk hi
section
variable {X:Cx}
theorem nV:dP X (.type "range") (fun xs H Q=>∃ j,xs = [.int j]/\∀ p,H p=none->Q (.ref p) (upd H p (.rng 0 j))):=by
 intro pins s σ H xs us Q I r h
 obtain ⟨j,rfl,q⟩:=h
 obtain ⟨u,rfl,t,rfl⟩:=gG r
 refine call_range_1 ⟨.ref s.heap.objs.size,_,I.laid (fun b o e=>Qa _ e) (Qi _) ?_,rfl,q _ (I.hok.fresh (Qi _))⟩
 exact ⟨_,_,_,Qe _ rfl⟩
def cV (n:Nat):List Int:=(List.range n).map fun (i:Nat)=>(i:Int)
theorem kA (hc:X.calm=true):dP X (.type "tuple") (fun xs H Q=>∃ (a:Addr) (n:Nat),xs = [.ref a]/\H a=some (.rng 0 n)/\n<=1000/\∀ p H',aF H H'->SqT X.K H' p ((cV n).map V.int)->Q (.ref p) H'):=by
 intro pins s σ H xs us Q I r h
 obtain ⟨a,n,rfl,ha,hn,q⟩:=h
 obtain ⟨u,rfl,rx⟩:=gG r
 cases rx
 obtain ⟨t,u,v,e⟩:=I.hok a _ ha
 have hsz:Builtin.Range.rangeSize 0 (n:Int) 1=(n:Int):=by rw [rangeSize_one]; split <;> omega
 have hsm:Builtin.Range.small 0 (n:Int) 1=true:=small_one (by omega) (by omega) (by omega) (by omega)
 have hn24:n<=2^24:=Qx hn (by decide)
 refine callType_new PySem.F.called_tuple (by decide) (PySem.F.typeCall_tuple_1 _) (PySem.F.newCall_tuple_1 _) (fun obj=>PySem.F.args_object_init_2 obj _) PySem.F.entry_tuple_new
  (jL a 0 n t u v n hsm hsz hn24) ⟨I.ok.hd hc,e,fun h' tk vs kp hi=>⟨⟨_,Qe _ rfl,rfl⟩,?_⟩⟩
 have I1:Inv X pins σ H { s with heap:=h',toks:=tk }:=I.kept kp
 have e0:((List.range n).map fun (i:Nat)=>(0:Int)+(i:Int))=cV n:=by unfold cV; exact Zs fun i _=>Wa _
 rw [e0] at hi
 have hv:=mY hi
 have hl:(cV n).length=n:=by unfold cV; simp
 have hf:=I1.hok.fresh (Qi _)
 have I2:Inv X pins σ (upd H h'.objs.size (.tup ((cV n).map V.int))) { s with heap:=h'.push { cls:=.type "tuple",data:=.seq vs.toArray },toks:=tk } :=
  I1.laid (t':=tk) (fun b o e=>Qa _ e) (Qi _) (show bL X.prog X.w _ _ _ (.tup _) from ⟨by rw [Qb,hl,sizeLine_eq]; omega,vs,0,hv,Qe _ rfl⟩)
 exact ⟨.ref h'.objs.size,_,I2,rfl,q _ _ (aF.new hf) (SqT.of aC)⟩
end
def tab (L:Bool) (ns:List Nat):SetTable:={ mask:=7,place:=ns.toArray,dummies:=#[],finger:=0,led:=L,moves:=0,plain:=true }
def bR (l:List (Nat×Tok)):Array (Int×Value):=(l.map fun p=>((p.1:Int),Value.int (p.1:Int) p.2)).toArray
theorem fs0:∀ (L:Bool) (k:Fin 8),(tab L []).freeSlot ((k.val:Nat):Int)=some (k.val,false):=by decide
theorem fs1:∀ (L:Bool) (k j:Fin 8),k≠j->(tab L [k.val]).freeSlot ((j.val:Nat):Int)=some (j.val,false):=by decide +kernel
theorem pt0:∀ (L:Bool) (k:Fin 8),(tab L []).put k.val=(tab L [k.val],0):=by decide
theorem pt1:∀ (L:Bool) (k j:Fin 8),k < j->(tab L [k.val]).put j.val=(tab L [k.val,j.val],1):=by decide +kernel
theorem pt2:∀ (L:Bool) (k j:Fin 8),j < k->(tab L [k.val]).put j.val=(tab L [j.val,k.val],0):=by decide +kernel
theorem aDN:∀ k:Fin 8,hashInt ((k.val:Nat):Int)=((k.val:Nat):Int):=by decide +kernel
theorem ft1:∀ (L:Bool) (k:Fin 8),(tab L [k.val]).fits 1=true:=by decide
theorem ft2:∀ (L:Bool) (k j:Fin 8),(tab L [k.val,j.val]).fits 2=true:=by decide +kernel
theorem tf1:∀ (L:Bool) (k:Fin 8),(tab L [k.val]).tooFull=false:=by decide
theorem tf2:∀ (L:Bool) (k j:Fin 8),(tab L [k.val,j.val]).tooFull=false:=by decide +kernel
theorem aFP (L:Bool) (k:Nat) (t:Tok) (hk:k < 8):layNew (tab L []) (bR []) (k:Int) (.int k t)=(bR [(k,t)],tab L [k],false,false):=by
 have e:=fs0 L ⟨k,hk⟩
 have e2:=pt0 L ⟨k,hk⟩
 have e3:=ft1 L ⟨k,hk⟩
 simp only at e e2 e3
 unfold layNew
 rw [e]
 dsimp only
 rw [e2]
 dsimp only
 have e4:SetTable.insertAt (bR []) 0 ((k:Int),Value.int k t)=bR [(k,t)]:=rfl
 rw [e4]
 show (bR [(k,t)],(tab L [k]).orStandIn 1,false,!(tab L [k]).fits 1)=_
 unfold SetTable.orStandIn
 rw [e3]
 rfl
theorem aFQ (L:Bool) (k j:Nat) (t u:Tok) (hk:k < 8) (hj:j < 8) (h:k < j):layNew (tab L [k]) (bR [(k,t)]) (j:Int) (.int j u)=(bR [(k,t),(j,u)],tab L [k,j],false,false):=by
 have e:=fs1 L ⟨k,hk⟩ ⟨j,hj⟩ (by intro z; have:=Fin.mk.inj z; omega)
 have e2:=pt1 L ⟨k,hk⟩ ⟨j,hj⟩ h
 have e3:=ft2 L ⟨k,hk⟩ ⟨j,hj⟩
 simp only at e e2 e3
 unfold layNew
 rw [e]
 dsimp only
 rw [e2]
 dsimp only
 have e4:SetTable.insertAt (bR [(k,t)]) 1 ((j:Int),Value.int j u)=bR [(k,t),(j,u)]:=rfl
 rw [e4]
 show (bR [(k,t),(j,u)],(tab L [k,j]).orStandIn 2,false,!(tab L [k,j]).fits 2)=_
 unfold SetTable.orStandIn
 rw [e3]
 rfl
theorem aFR (L:Bool) (k j:Nat) (t u:Tok) (hk:k < 8) (hj:j < 8) (h:j < k):layNew (tab L [k]) (bR [(k,t)]) (j:Int) (.int j u)=(bR [(j,u),(k,t)],tab L [j,k],false,false):=by
 have e:=fs1 L ⟨k,hk⟩ ⟨j,hj⟩ (by intro z; have:=Fin.mk.inj z; omega)
 have e2:=pt2 L ⟨k,hk⟩ ⟨j,hj⟩ h
 have e3:=ft2 L ⟨j,hj⟩ ⟨k,hk⟩
 simp only at e e2 e3
 unfold layNew
 rw [e]
 dsimp only
 rw [e2]
 dsimp only
 have e4:SetTable.insertAt (bR [(k,t)]) 0 ((j:Int),Value.int j u)=bR [(j,u),(k,t)]:=rfl
 rw [e4]
 show (bR [(j,u),(k,t)],(tab L [j,k]).orStandIn 2,false,!(tab L [j,k]).fits 2)=_
 unfold SetTable.orStandIn
 rw [e3]
 rfl
def SX (L:Bool) (h:Heap) (a:Addr) (l:List (Nat×Tok)):Prop:=∃ o ep,h.get? a=some o/\o.ExactSet/\o.data=.set (bR l) ep (tab L (l.map (·.1)))
section
variable {prog:Program} {w:World} {A:Around} {E:Value->Shared->Prop} {s:Shared} {L:Bool} {a:Addr}
theorem xU (prog:Program) (w:World) (l:List (Nat×Tok)) (h8:∀ p∈l,p.1 < 8):ElemsOf (intKind prog w) (bR l).toList:=by
 intro e he
 unfold bR at he
 rw [Xe] at he
 obtain ⟨p,hp,rfl⟩:=Jl.mp he
 refine ⟨⟨(p.1:Int),?_,?_⟩,rfl⟩
 ·exact intKind_is _ _ _ _
 ·exact (aDN ⟨p.1,h8 p hp⟩).symm
theorem aBv {l l':List (Nat×Tok)} {k:Nat} {t:Tok} {Q:Bool->Shared->Prop} (hS:SX L s.heap a l) (h8:∀ p∈l,p.1 < 8) (hk:k < 8) (hf:(tab L (l.map (·.1))).fits l.length=true) (hlen:l.length<=1)
  (hnew:(∀ p∈l,p.1≠k)->layNew (tab L (l.map (·.1))) (bR l) (k:Int) (.int k t)=(bR l',tab L (l'.map (·.1)),false,false)/\(tab L (l'.map (·.1))).tooFull=false/\l'.length<=2)
  (hQ:∀ h' b,Heap.SameBut a s.heap h'->((∃ p∈l,p.1=k)->SX L h' a l)->((∀ p∈l,p.1≠k)->SX L h' a l')->Q b { s with heap:=h',toks:=s.toks+1 }) :
  wpAny (model prog w) A (setAdd a (.int (k:Int) t)) Q E s:=by
 obtain ⟨o,ep,ho,hex,hd⟩:=hS
 unfold setAdd
 refine wpAny_holding (wpAny_bind ((intKind prog w).pyHash (k:=(k:Int)) (intKind_is _ _ _ _) ?_))
 have hh:(intKind prog w).hash (k:Int)=(k:Int):=aDN ⟨k,hk⟩
 have hel:=xU prog w l h8
 have hsz:(bR l).size=l.length:=by unfold bR; rw [Qg,Qb]
 have hfit:(tab L (l.map (·.1))).fits (bR l).size=true:=by rw [hsz]; exact hf
 have hscan:byScan (.int (k:Int) t) (bR l)=true:=byScan_of (knd:=intKind prog w) rfl (by rw [hsz]; unfold scanBound; omega) hel
 unfold setAddHashed setAddHashedIn
 refine wpAny_holding (wpAny_bind (wpAny_setState_of (s:={ s with toks:=s.toks+1 }) ho hd hfit ?_))
 dsimp only
 rw [hscan]
 simp only [↓reduceIte]
 unfold setAddByScan
 refine wpAny_bind ?_
 refine wpAny_bind (wpAny_rule ?_)
 refine wpAny_bind (wpAny_setScan_of (knd:=intKind prog w) (k:=(k:Int)) (intKind_is _ _ _ _) ho hd hfit hel ?_)
 cases hr:List.findIdx? (fun e=>(intKind prog w).is (k:Int) e.2) (bR l).toList with
 | some j =>
  dsimp only
  obtain ⟨hj,hpj,_⟩:=List.findIdx?_eq_some_iff_getElem.mp hr
  have hthere:∃ p∈l,p.1=k:=by
   have el:(bR l).toList=l.map fun p=>((p.1:Int),Value.int (p.1:Int) p.2):=by unfold bR; rw [Xe]
   have hm:(bR l).toList[j]∈l.map fun p=>((p.1:Int),Value.int (p.1:Int) p.2):=by rw [<- el]; exact Xv hj
   obtain ⟨p,hp,e⟩:=Jl.mp hm
   refine ⟨p,hp,?_⟩
   rw [<- e] at hpj
   obtain ⟨t',e2⟩:=Value.isInt_shape (show Value.isInt (k:Int) (Value.int (p.1:Int) p.2)=true from hpj)
   have e3:(p.1:Int)=(k:Int):=by injection e2
   exact Int.ofNat.inj e3
  refine wpAny_pure (wpAny_pure ?_)
  exact hQ s.heap false (Heap.SameBut.refl a s.heap) (fun _=>⟨o,ep,ho,hex,hd⟩) fun hn=>by
   obtain ⟨p,hp,e⟩:=hthere
   exact absurd e (hn p hp)
 | none =>
  dsimp only
  have hno:∀ p∈l,p.1≠k:=fun p hp e=>by
   have:=List.findIdx?_eq_none_iff.mp hr ((p.1:Int),Value.int (p.1:Int) p.2) (by unfold bR; rw [Xe]; exact Jl.mpr ⟨p,hp,rfl⟩)
   rw [e] at this
   have h2:(intKind prog w).is (k:Int) (Value.int (k:Int) p.2)=true:=intKind_is _ _ _ _
   simp only at this
   rw [h2] at this
   cases this
  obtain ⟨e1,e2,e3⟩:=hnew hno
  rw [hh,e1]
  dsimp only
  refine wpAny_bind (wpAny_pure ?_)
  rw [if_pos (show (tab L (l'.map (·.1))).plain=true from rfl),hashByValue_scannable 8 (x:=.int (k:Int) t) rfl]
  refine wpAny_bind (wpAny_pure ?_)
  rw [if_pos (show plainKind (.int (k:Int) t)=true from rfl)]
  have hsz':(bR l').size=l'.length:=by unfold bR; rw [Qg,Qb]
  refine wpAny_bind (wpAny_storeSet_of (s:={ s with toks:=s.toks+1 }) ho hd ?_ (by rw [hsz',sizeLine_eq]; omega))
  rw [e2]
  simp only [Bool.not_false,Zn,Jh,if_false]
  refine wpAny_pure (wpAny_pure ?_)
  refine hQ (s.heap.update a (Obj.putSet (bR l') (tab L (l'.map (·.1))))) true (Heap.SameBut.update _ _ _) (fun ⟨p,hp,e⟩=>absurd e (hno p hp)) fun _=>⟨{ o with data:=.set (bR l') (ep+1) (tab L (l'.map (·.1))) },ep+1,?_,hex,rfl⟩
  have:=Jx (Obj.putSet (bR l') (tab L (l'.map (·.1)))) ho (by rw [putSet_of _ _ hd]; rfl)
  rw [putSet_of _ _ hd] at this
  exact this
end
section
variable {prog:Program} {w:World} {A:Around} {E:Value->Shared->Prop} {s:Shared}
abbrev Led (w:World):Bool:=!(w.params.followText "set-order")
theorem pK (a:Value) {Q₁:Value->Shared->Prop}
  (h:Q₁ (.ref s.heap.objs.size) { s with heap:=s.heap.push { cls:=.type "set",dict:=none,data:=.set #[] 0 (.fresh 0 0 (Led w)) } }) :
  codeAny (model prog w) A (.call (.builtin "set.__new__") ⟨[.type "set",a],[]⟩) (wants Q₁ E) s:=by
 refine codeAny_of_tree ?_
 show wpAny _ A.in1 (do checkBuiltinCall "set.__new__" ⟨[.type "set",a],[]⟩; again (.builtin "set.__new__" ⟨[.type "set",a],[]⟩)) _ _ s
 refine wpAny_bind (wpAny_of_eq (PySem.F.newCall_set_1 a) (wpAny_pure ⟨plainId_quiet PySem.F.plain_set_new _,codeAny_builtin PySem.F.entry_set_new ?_⟩))
 rw [Around.under_plainId PySem.F.plain_set_new _]
 unfold Builtin.«set.__new__» Builtin.Frozenset.newClass
 have hsub:=sub_set_self
 obtain ⟨hp,g,d,tk,os⟩:=s
 dsimp only
 wp_walk
 refine wpAny_askSetting (wpAny_pure ?_)
 dsimp only
 simp only [newObj]
 refine wpAny_bind (wpAny_alloc (wpAny_pure ?_))
 exact wpAny_pure h
theorem vD {I S:Addr} {fp wr:List Addr} {n i:Nat} {P:Nat->Value->Prop} {St:Nat->Heap->Prop} {R:Result->Shared->Prop} (W:Walks prog w A.in1 I fp wr n P St) (hi:i < n) (st:St i s.heap)
  (h:∀ v h' tk,P i v->St (i+1) h'->(∀ b o,b∉wr->s.heap.get? b=some o->h'.get? b=some o) ->
   wpAny (model prog w) A.in1 (setAdd S v) (fun _ s2=>codeAny (model prog w) A (.builtin "set.update.loop" ⟨[.ref S,.ref I],[]⟩) R s2) (fun e s'=>R (.error e) s') { s with heap:=h',toks:=tk }) :
  codeAny (model prog w) A (.builtin "set.update.loop" ⟨[.ref S,.ref I],[]⟩) R s:=by
 refine codeAny_builtin PyProof.Rows.F.entry_set_update_loop ?_
 rw [Around.under_plainId PyProof.Rows.F.plain_set_update_loop _]
 show wpAny _ A.in1 (pyNext (.ref I) >>= _) _ _ s
 refine wpAny_bind (W.item i s _ _ hi st fun v h' tk hP hst' hk=>?_)
 show wpAny _ A.in1 (holding [v] (setAdd S v) >>= _) _ _ _
 refine wpAny_bind (wpAny_holding (wpAny_mono (h v h' tk hP hst' hk) (fun _ s2 q=>?_) fun _ _ e=>e))
 exact wpAny_pure ⟨plainId_quiet PyProof.Rows.F.plain_set_update_loop _,q⟩
theorem aBw {I S:Addr} {fp wr:List Addr} {n:Nat} {P:Nat->Value->Prop} {St:Nat->Heap->Prop} {R:Result->Shared->Prop} (W:Walks prog w A.in1 I fp wr n P St) (st:St n s.heap)
  (h:∀ h' tk,(∀ b o,b∉wr->s.heap.get? b=some o->h'.get? b=some o)->R (.ok (.ret .none)) { s with heap:=h',toks:=tk }) :
  codeAny (model prog w) A (.builtin "set.update.loop" ⟨[.ref S,.ref I],[]⟩) R s:=by
 refine codeAny_builtin PyProof.Rows.F.entry_set_update_loop ?_
 rw [Around.under_plainId PyProof.Rows.F.plain_set_update_loop _]
 show wpAny _ A.in1 (pyNext (.ref I) >>= _) _ _ s
 refine wpAny_bind (W.done s _ _ st fun h' tk hk=>?_)
 show wpAny _ A.in1 (ret Value.none) _ _ _
 exact wpAny_pure (h h' tk hk)
def two (a b:Nat) (t u:Tok):List (Nat×Tok):=if a=b then [(a,t)] else if a < b then [(a,t),(b,u)] else [(b,u),(a,t)]
theorem SX.keep {L:Bool} {h h':Heap} {a:Addr} {l:List (Nat×Tok)} (x:SX L h a l) (k:∀ o,h.get? a=some o->h'.get? a=some o):SX L h' a l:=by
 obtain ⟨o,ep,e,r⟩:=x
 exact ⟨o,ep,k o e,r⟩
set_option maxHeartbeats 3200000 in
theorem tM {l:Addr} {a b:Nat} {t u:Tok} {Q:Value->Shared->Prop} (hh:A.handled=none) (hl:s.heap.IsList l #[.int (a:Int) t,.int (b:Int) u]) (ha:a < 8) (hb:b < 8)
  (h:∀ (h':Heap) (tk:Nat),SX (Led w) h' s.heap.objs.size (two a b t u)->(∀ b o,b < s.heap.objs.size->s.heap.get? b=some o->h'.get? b=some o)->Q (.ref s.heap.objs.size) { s with heap:=h',toks:=tk }) :
  wpAny (model prog w) A (call (.type "set") [.ref l]) Q E s:=by
 obtain ⟨c,tl,hmro⟩:=PySem.F.called_set.mro
 have hmade:=PySem.F.called_set.made
 have hsub:=PySem.F.called_set.sub
 refine wpAny_call (codeAny_of_tree ?_)
 show wpAny _ _ (callAny (.type "set") _) _ _ _
 refine wpAny_pure ⟨Code.quiet_builtin _ (by decide +kernel),codeAny_builtin PySem.F.entry_type_call ?_⟩
 rw [Around.under_plain (weight_type_call_type "set" [.ref l] []) rfl]
 have h1:=PySem.F.called_set.notType
 have h2:=PySem.F.called_set.canCreate
 have hct:=PySem.F.typeCall_set_1 (.ref l)
 repeat (any_goals (first | assumption | wp_step))
 refine codeAny_mono (pK (.ref l) (E:=E) (Q₁:=fun obj s₁=>obj=.ref s.heap.objs.size/\s₁={ s with heap:=s.heap.push { cls:=.type "set",dict:=none,data:=.set #[] 0 (.fresh 0 0 (Led w)) } }) ⟨rfl,rfl⟩) fun r s₁ hr=>?_
 cases r with
 | error e=>exact hr
 | ok fl =>
  cases fl with
  | ret obj =>
   obtain ⟨rfl,rfl⟩:=hr
   generalize hled:Led w=led at h ⊢
   have hS:(s.heap.push { cls:=.type "set",dict:=none,data:=.set #[] 0 (.fresh 0 0 led) }).get? s.heap.objs.size=some { cls:=.type "set",dict:=none,data:=.set #[] 0 (.fresh 0 0 led) }:=Qe _ rfl
   have hT:Shared.TypeIs { s with heap:=s.heap.push { cls:=.type "set",dict:=none,data:=.set #[] 0 (.fresh 0 0 led) } } (.ref s.heap.objs.size) "set" := ⟨_,hS,rfl⟩
   have hli:=PySem.F.called_set.init.lookup
   have hbi:=PySem.F.called_set.init.bind (.ref s.heap.objs.size)
   repeat (any_goals (first | assumption | wp_step))
   refine codeAny_mono (codeAny_call_builtin (R:=wants (fun r s₂=>r=.none/\∃ h' tk,s₂={ s with heap:=h',toks:=tk }/\SX led h' s.heap.objs.size (two a b t u) /\
     (∀ b o,b < s.heap.objs.size->s.heap.get? b=some o->h'.get? b=some o)) E) PySem.F.called_set.init.plain PySem.F.entry_set_init (check_set_init_1 hT ?_)) fun r₂ s₂ hr₂=>?_
   ·obtain ⟨ol,hol,hcl,nl,hdl⟩:=hl
    obtain ⟨ocls,odict,odata,oslots⟩:=ol
    simp only at hcl hdl
    subst hcl; subst hdl
    have hol':(s.heap.push { cls:=.type "set",dict:=none,data:=.set #[] 0 (.fresh 0 0 led) }).get? l=some { cls:=.type "list",dict:=odict,data:=.seq #[.int (a:Int) t,.int (b:Int) u] nl,slots:=oslots }:=Qa _ hol
    have hsls:=PySem.F.sub_list_set
    have hslf:=PySem.F.sub_list_frozenset
    have hne:(Value.type "list" == Value.type "dict")=false:=by decide
    have hl1:(s.heap.push { cls:=.type "set",dict:=none,data:=.set #[] 0 (.fresh 0 0 led) }).IsList l #[.int (a:Int) t,.int (b:Int) u]:=⟨_,hol',rfl,nl,rfl⟩
    unfold Builtin.«set.__init__» noKeywords Builtin.Frozenset.updateFrom
    generalize hPI:pyIter=PI
    wp_walk
    subst hPI
    refine wpAny_pyIter_list hl1 ?_
    refine wpAny_bind (wpAny_runValue ?_)
    have hlS:l < s.heap.objs.size:=Ql hol
    have hh3:A.in1.in1.in1.handled=none:=by simp [hh]
    generalize hH1:s.heap.push { cls:=.type "set",dict:=none,data:=.set #[] 0 (.fresh 0 0 led) }=H1 at *
    have szH1:H1.objs.size=s.heap.objs.size+1:=by rw [<- hH1,Qz]
    have hneI:l≠H1.objs.size:=by rw [szH1]; exact Qt (Jy hlS)
    have W:=Walks.list (prog:=prog) (w:=w) hh3 H1.objs.size l hneI #[.int (a:Int) t,.int (b:Int) u]
    generalize hS0:s.heap.objs.size=S at *
    have SI:S≠H1.objs.size:=by omega
    have SXk:∀ {h h':Heap} {ll:List (Nat×Tok)},SX led h S ll->(∀ b o,b∉[H1.objs.size]->h.get? b=some o->h'.get? b=some o)->SX led h' S ll:=fun x k=>x.keep fun o e=>k S o (by simpa using SI) e
    have x0:SX led (H1.push { cls:=.type "list_iterator",data:=.fields #[.ref l,.int 0 0] }) S []:=⟨_,0,Qa _ hS,⟨rfl,rfl,rfl⟩,rfl⟩
    have lS:l≠S:=Qt hlS
    refine vD W (i:=0) (by show 0 < 2; decide) ⟨⟨_,Qe _ rfl,rfl,rfl⟩,hl1.push _⟩ fun v h2 tk2 hv2 st2 k2=>?_
    have hv2':v=.int (a:Int) t:=(Option.some.inj (show some (Value.int (a:Int) t)=some v from hv2)).symm
    subst hv2'
    refine aBv (l:=[]) (l':=[(a,t)]) (SXk x0 k2) (fun p hp=>by cases hp) ha rfl (by decide) (fun _=>⟨aFP led a t ha,tf1 led ⟨a,ha⟩,by show 1<=2; decide⟩) fun h3 _ sb3 _ x3=>?_
    have x3':=x3 fun p hp=>by cases hp
    have st3:h3.IsListIter H1.objs.size l 1/\h3.IsList l #[.int (a:Int) t,.int (b:Int) u]:=W.frame _ _ _ st2 fun c hc o e=>(sb3.2 c (by
     rcases Qk.mp hc with z | z
     ·rw [z]; exact Ne.symm SI
     ·have z':c=l:=by simpa using z
      rw [z']; exact lS)).trans e
    refine vD W (i:=1) (by show 1 < 2; decide) st3 fun v h4 tk4 hv4 st4 k4=>?_
    have hv4':v=.int (b:Int) u:=(Option.some.inj (show some (Value.int (b:Int) u)=some v from hv4)).symm
    subst hv4'
    refine aBv (l:=[(a,t)]) (l':=if a < b then [(a,t),(b,u)] else [(b,u),(a,t)]) (SXk x3' k4) (fun p hp=>by rw [Qr.mp hp]; exact ha) hb (ft1 led ⟨a,ha⟩) (by show 1<=1; decide) (fun hn=>?_) fun h5 _ sb5 xo xn=>?_
    ·have hab:a≠b:=hn (a,t) Qo
     by_cases hlt:a < b
     ·rw [if_pos hlt]; exact ⟨aFQ led a b t u ha hb hlt,tf2 led ⟨a,ha⟩ ⟨b,hb⟩,by simp⟩
     ·rw [if_neg hlt]; exact ⟨aFR led a b t u ha hb (by omega),tf2 led ⟨b,hb⟩ ⟨a,ha⟩,by simp⟩
    ·have x5:SX led h5 S (two a b t u):=by
      unfold two
      by_cases hab:a=b
      ·rw [if_pos hab]; exact xo ⟨(a,t),Qo,hab⟩
      ·rw [if_neg hab]; exact xn fun p hp=>by rw [Qr.mp hp]; exact hab
     have st5:h5.IsListIter H1.objs.size l 2/\h5.IsList l #[.int (a:Int) t,.int (b:Int) u]:=W.frame _ _ _ st4 fun c hc o e=>(sb5.2 c (by
      rcases Qk.mp hc with z | z
      ·rw [z]; exact Ne.symm SI
      ·have z':c=l:=by simpa using z
       rw [z']; exact lS)).trans e
     refine aBw W st5 fun h6 tk6 k6=>?_
     show wpAny _ _ _ _ _ _
     refine wpAny_pure ?_
     show wpAny _ _ (ret Value.none) _ _ _
     refine wpAny_pure ⟨rfl,h6,tk6,rfl,SXk x5 k6,fun c o hc e=>?_⟩
     have c1:c≠S:=Qt hc
     have c2:c∉[H1.objs.size]:=by
      intro z
      have z':c=H1.objs.size:=by simpa using z
      omega
     exact k6 c o c2 ((sb5.2 c c1).trans (k4 c o c2 ((sb3.2 c c1).trans (k2 c o c2 (Qa _ (hH1 ▸ Qa _ e))))))
   ·cases r₂ with
    | error e=>exact hr₂
    | ok fl₂ =>
     cases fl₂ with
     | ret r =>
      obtain ⟨rfl,h',tk,rfl,hS',hk'⟩:=hr₂
      repeat (any_goals (first | assumption | wp_step))
      exact h _ _ hS' hk'
     | _=>exact hr₂.elim
  | _=>exact hr.elim
end
theorem bK:Slot "set_iterator" "__next__" "set_iterator.__next__" :=
 .of (owner := "set_iterator") (n := "__next__") (by rw [typeLookup_type,builtinLookup_eq_fast]; kernel_rfl) (by decide +kernel) (by decide +kernel) (by decide +kernel)
  (by first | exact .inl (by decide +kernel) | exact .inr (by decide +kernel)) (by rw [isSubtype_type]; kernel_rfl)
theorem eW:entryFor table "set_iterator.__next__" = some Builtin.«set_iterator.__next__»:=entryFor_of_tree (by kernel_rfl)
theorem eG (a:Value):argsOk "set_iterator.__next__" ⟨[a],[]⟩:=by
 unfold argsOk; kernel_rfl
theorem fE:Slot "set_iterator" "__iter__" "set_iterator.__iter__" :=
 .of (owner := "set_iterator") (n := "__iter__") (by rw [typeLookup_type,builtinLookup_eq_fast]; kernel_rfl) (by decide +kernel) (by decide +kernel) (by decide +kernel)
  (by first | exact .inl (by decide +kernel) | exact .inr (by decide +kernel)) (by rw [isSubtype_type]; kernel_rfl)
theorem iK:entryFor table "set_iterator.__iter__" = some Builtin.«dict_keyiterator.__iter__» :=
 entryFor_alias (id' := "dict_keyiterator.__iter__") (by kernel_rfl) rfl (by decide +kernel) (by kernel_rfl)
theorem iF (a:Value):argsOk "set_iterator.__iter__" ⟨[a],[]⟩:=by
 unfold argsOk; kernel_rfl
theorem pL:entryFor table "set.__iter__" = some Builtin.«frozenset.__iter__» :=
 entryFor_alias (id' := "frozenset.__iter__") (by kernel_rfl) rfl (by decide +kernel) (by kernel_rfl)
def Okl (l:List (Nat×Tok)):Prop:=(∃ p,l = [p]/\p.1 < 8)∨∃ p q,l = [p,q]/\p.1 < q.1/\q.1 < 8
def nW (ns:List Nat) (i:Nat):Nat:=if i=0 then 0 else (ns[i - 1]?).getD 0+1
theorem bl1:∀ (k:Fin 8) (i:Fin 2),SetTable.below #[k.val] (nW [k.val] i.val)=i.val:=by decide +kernel
theorem bl2:∀ (k j:Fin 8) (i:Fin 3),k < j->SetTable.below #[k.val,j.val] (nW [k.val,j.val] i.val)=i.val:=by decide +kernel
theorem aBx {l:List (Nat×Tok)} (h:Okl l) (i:Nat) (hi:i<=l.length):SetTable.below (l.map (·.1)).toArray (nW (l.map (·.1)) i)=i:=by
 rcases h with ⟨p,rfl,h8⟩ | ⟨p,q,rfl,h1,h8⟩
 ·exact bl1 ⟨p.1,h8⟩ ⟨i,by simp at hi; omega⟩
 ·exact bl2 ⟨p.1,by omega⟩ ⟨q.1,h8⟩ ⟨i,by simp at hi; omega⟩ h1
theorem Okl.fits {L:Bool} {l:List (Nat×Tok)} (h:Okl l):(tab L (l.map (·.1))).fits (bR l).size=true:=by
 rcases h with ⟨p,rfl,h8⟩ | ⟨p,q,rfl,h1,h8⟩
 ·exact ft1 L ⟨p.1,h8⟩
 ·exact ft2 L ⟨p.1,by omega⟩ ⟨q.1,h8⟩
theorem aEk {a b:Nat} {t u:Tok} (ha:a < 8) (hb:b < 8):Okl (two a b t u):=by
 unfold two
 by_cases h:a=b
 ·rw [if_pos h]; exact .inl ⟨_,rfl,ha⟩
 ·rw [if_neg h]
  by_cases h2:a < b
  ·rw [if_pos h2]; exact .inr ⟨_,_,rfl,h2,hb⟩
  ·rw [if_neg h2]; exact .inr ⟨_,_,rfl,by show b < a; omega,ha⟩
def lC (w:World) (S:Addr) (ep:Nat) (l:List (Nat×Tok)):Array (Int×Value):=if w.params.followText "set-order" then pickOrder (w.params.setOrder S ep) (bR l) else bR l
def gH (w:World) (l:List (Nat×Tok)) (i:Nat):Nat:=if w.params.followText "set-order" then 0 else nW (l.map (·.1)) i
section
variable {prog:Program} {w:World} {A:Around} {E:Value->Shared->Prop} {s:Shared} {S:Addr} {o:Obj} {ep:Nat} {l:List (Nat×Tok)}
theorem nC {Q:Bool->Shared->Prop} (h:Q (w.params.followText "set-order") s):wpAny (model prog w) A setsByText Q E s:=wpAny_bind (wpAny_askSetting (wpAny_pure h))
theorem pM {i:Nat} {Q:Option (Value×Nat)->Shared->Prop} (hl:Okl l) (ho:s.heap.get? S=some o) (hd:o.data=.set (bR l) ep (tab (Led w) (l.map (·.1)))) (hi:i<=l.length)
  (h:Q (((lC w S ep l)[i]?).map fun e=>(e.2,gH w l (i+1))) s):wpAny (model prog w) A (setNext S (gH w l i) i ep) Q E s:=by
 unfold setNext
 refine wpAny_bind (wpAny_setState_of ho hd hl.fits ?_)
 dsimp only
 refine wpAny_bind (nC ?_)
 cases hb:w.params.followText "set-order" with
 | true =>
  have e1:lC w S ep l=pickOrder (w.params.setOrder S ep) (bR l):=by unfold lC; rw [hb]; rfl
  have e2:∀ i,gH w l i=0:=fun i=>by unfold gH; rw [hb]; rfl
  rw [e1,e2] at h
  rw [e2]
  simp only [if_true,bne_self_eq_false,Jh,if_false]
  refine wpAny_bind ?_
  unfold setWalk
  refine wpAny_bind (wpAny_setState_of ho hd hl.fits ?_)
  dsimp only
  refine wpAny_bind (nC ?_)
  rw [hb]
  simp only [if_true]
  refine wpAny_bind (wpAny_askSetting (wpAny_pure (wpAny_pure h)))
 | false =>
  have e1:lC w S ep l=bR l:=by unfold lC; rw [hb]; rfl
  have e2:∀ i,gH w l i=nW (l.map (·.1)) i:=fun i=>by unfold gH; rw [hb]; rfl
  have eL:Led w=true:=by unfold Led; rw [hb]; rfl
  rw [e1,e2] at h
  rw [e2,eL]
  simp only [Jh,if_false]
  have hp:(tab true (l.map (·.1))).place=(l.map (·.1)).toArray:=rfl
  have hbl:=aBx hl i hi
  refine wpAny_ite_split (fun hab=>absurd (show false=true from hab) Qq) (fun _=>?_)
  refine wpAny_bind (m:=pure ()) (wpAny_pure (wpAny_pure ?_))
  rw [hp,hbl]
  have e3:(bR l)[i]?=(l[i]?).map fun p=>((p.1:Int),Value.int (p.1:Int) p.2):=by unfold bR; simp
  have e4:(l.map (·.1)).toArray[i]?=(l[i]?).map (·.1):=by simp
  rw [e3] at h
  rw [e3,e4]
  cases hli:l[i]? with
  | none=>rw [hli] at h; exact h
  | some p =>
   rw [hli] at h
   have e5:nW (l.map (·.1)) (i+1)=p.1+1:=by
    unfold nW
    rw [if_neg (by omega),Nat.add_sub_cancel,Qh,hli]
    rfl
   rw [e5] at h
   exact h
def oJ (w:World) (h:Heap) (I S:Addr) (l:List (Nat×Tok)) (ep i:Nat):Prop :=
 h.get? I=some { cls:=.type "set_iterator",data:=.fields #[rawInt (gH w l i:Nat),rawInt (i:Nat),.ref S,rawInt (l.length:Nat),rawInt (ep:Nat)] }
theorem aBy (hh:A.handled=none) (I S:Addr) (hne:S≠I) (o:Obj) (ep:Nat) (l:List (Nat×Tok)) (hl:Okl l) (hd:o.data=.set (bR l) ep (tab (Led w) (l.map (·.1)))) (hsz:(lC w S ep l).size=l.length) :
  Walks prog w A I [I,S] [I] l.length (fun i v=>∃ k,(lC w S ep l)[i]?=some (k,v)) (fun i h=>oJ w h I S l ep i/\h.get? S=some o) where
 sub:=fun b hb=>by simp at hb; simp [hb]
 frame:=fun _ _ _ st hk=>⟨hk I (by simp) _ st.1,hk S (by simp) _ st.2⟩
 item:=fun i s Q E hi st hQ=>by
  obtain ⟨hit,hS⟩:=st
  have hT:s.TypeIs (.ref I) "set_iterator" := ⟨_,hit,rfl⟩
  unfold pyNext
  refine wpAny_bind (wpAny_attempt (wpAny_callSpecial?_slot (name:=Str.ofString "__next__") hT bK
   (wpAny_call_entry bK hT eW ?_ (eG _))))
  unfold Builtin.«set_iterator.__next__» slotArgs
  simp only [Yg,Yy,Jh,↓reduceIte,Xz,bne_self_eq_false]
  refine wpAny_bind (wpAny_pure ?_)
  dsimp only
  refine wpAny_bind (wpAny_fieldsOf hit rfl ?_)
  show wpAny _ _ (setEntries S >>= _) _ _ s
  have hsz':(bR l).size=l.length:=by unfold bR; rw [Qg,Qb]
  refine wpAny_bind (wpAny_bind (wpAny_setState_of hS hd hl.fits (wpAny_pure ?_)))
  dsimp only
  refine wpAny_ite_split (fun hab=>absurd hab (by rw [hsz']; simp)) (fun _=>?_)
  show wpAny _ _ (setNext S (gH w l i:Int).toNat (i:Int).toNat (ep:Int).toNat >>= _) _ _ s
  rw [Jg,Jg,Jg]
  refine wpAny_bind (pM hl hS hd (by omega) ?_)
  obtain ⟨⟨k,v⟩,hkv⟩:∃ e,(lC w S ep l)[i]?=some e:=⟨_,Array.getElem?_eq_getElem (by rw [hsz]; exact hi)⟩
  rw [hkv]
  show wpAny _ _ (setField (Value.ref I) 0 (rawInt ↑(gH w l (i+1))) >>= _) _ _ s
  refine wpAny_bind (wpAny_setField_rec hit (by show 0 < 5; decide) fun h1 g1 sb1=>?_)
  refine wpAny_bind (wpAny_setField_rec g1 (by show 1 < 5; decide) fun h2 g2 sb2=>?_)
  refine wpAny_pure ⟨v,rfl,wpAny_pure ?_⟩
  refine hQ v h2 s.toks ⟨k,hkv⟩ ⟨?_,(sb2.2 S hne).trans ((sb1.2 S hne).trans hS)⟩ fun b ob hb e=>?_
  ·unfold oJ
   rw [g2]
   congr 1
  ·have hb':b≠I:=by simpa using hb
   exact (sb2.2 b hb').trans ((sb1.2 b hb').trans e)
 done:=fun s Q E st hQ=>by
  obtain ⟨hit,hS⟩:=st
  have hT:s.TypeIs (.ref I) "set_iterator" := ⟨_,hit,rfl⟩
  unfold pyNext
  refine wpAny_bind (wpAny_attempt (wpAny_callSpecial?_slot (name:=Str.ofString "__next__") hT bK
   (wpAny_call_entry bK hT eW ?_ (eG _))))
  unfold Builtin.«set_iterator.__next__» slotArgs
  simp only [Yg,Yy,Jh,↓reduceIte,Xz,bne_self_eq_false]
  refine wpAny_bind (wpAny_pure ?_)
  dsimp only
  refine wpAny_bind (wpAny_fieldsOf hit rfl ?_)
  show wpAny _ _ (setEntries S >>= _) _ _ s
  have hsz':(bR l).size=l.length:=by unfold bR; rw [Qg,Qb]
  refine wpAny_bind (wpAny_bind (wpAny_setState_of hS hd hl.fits (wpAny_pure ?_)))
  dsimp only
  refine wpAny_ite_split (fun hab=>absurd hab (by rw [hsz']; simp)) (fun _=>?_)
  show wpAny _ _ (setNext S (gH w l l.length:Int).toNat (l.length:Int).toNat (ep:Int).toNat >>= _) _ _ s
  rw [Jg,Jg,Jg]
  refine wpAny_bind (pM hl hS hd (Qi _) ?_)
  have hkv:(lC w S ep l)[l.length]?=none:=by rw [Array.getElem?_eq_none]; omega
  rw [hkv]
  show wpAny _ _ (setField (Value.ref I) 2 Value.none >>= _) _ _ s
  refine wpAny_bind (wpAny_setField_rec hit (by show 2 < 5; decide) fun h1 g1 sb1=>?_)
  show wpAny _ _ (newExc (.type "StopIteration") [] >>= _) _ _ _
  refine wpAny_bind ?_
  simp only [newExc,newTuple]
  refine wpAny_bind (wpAny_newObj_type ?_ (by size_fits))
  refine wpAny_bind (m:=firstArgMember _ _) (wpAny_of_eq (a:=Value.none) (by first | rfl | (simp only [firstArgMember]; rfl)) ?_)
  refine wpAny_newObj_type ?_ (by size_fits)
  simp only [raiseNew]
  refine wpAny_bind (wpAny_handled ?_)
  first | rw [show A.in1.handled=none from hh] | rw [hh]
  refine wpAny_bind (wpAny_pure (wpAny_throw ?_))
  refine wpAny_bind (wpAny_isInstance (T := "StopIteration") (b:=true) ⟨_,Qe _ rfl,rfl⟩ isSubtype_stop ?_)
  refine wpAny_pure (hQ _ s.toks fun b ob hb e=>?_)
  have hb':b≠I:=by simpa using hb
  exact Qa _ (Qa _ ((sb1.2 b hb').trans e))
 self:=fun i s Q E st h=>by
  obtain ⟨hit,hS⟩:=st
  have hT:s.TypeIs (.ref I) "set_iterator" := ⟨_,hit,rfl⟩
  refine wpAny_pyIter_slot hT fE (wpAny_call_entry fE hT iK ?_ (iF _))
  show wpAny _ _ (ret (.ref I)) _ _ s
  exact wpAny_pure ⟨_,rfl, "set_iterator",_,hT,bK.lookup,h⟩
theorem xV {Q:Value->Shared->Prop} (hl:Okl l) (ho:s.heap.get? S=some o) (hex:o.ExactSet) (hd:o.data=.set (bR l) ep (tab (Led w) (l.map (·.1))))
  (h:Q (.ref s.heap.objs.size) { s with heap:=s.heap.push { cls:=.type "set_iterator",data:=.fields #[rawInt (gH w l 0:Nat),rawInt ((0:Nat):Int),.ref S,rawInt (l.length:Nat),rawInt (ep:Nat)] } }):wpAny (model prog w) A (pyIter (.ref S)) Q E s:=by
 have hT:s.TypeIs (.ref S) "set" := ⟨o,ho,hex.1⟩
 refine wpAny_pyIter_slot hT PySem.F.slot_set_iter (wpAny_call_entry PySem.F.slot_set_iter hT pL ?_ (PySem.F.args_set_iter_1 _))
 unfold Builtin.«frozenset.__iter__» Builtin.Frozenset.slot0 slotArgs
 simp only [Yg,Yy,Jh,↓reduceIte,bind_assoc,Xz,bne_self_eq_false]
 refine wpAny_bind (wpAny_pure ?_)
 dsimp only
 refine wpAny_bind (m:=Builtin.Frozenset.addrOf (.ref S)) (wpAny_pure ?_)
 unfold Builtin.Frozenset.sizeOf setEntries
 refine wpAny_bind (wpAny_bind (wpAny_bind (wpAny_setState_of ho hd hl.fits (wpAny_pure (wpAny_pure ?_)))))
 dsimp only
 unfold setDrawn
 refine wpAny_bind (wpAny_bind (wpAny_setState_of ho hd hl.fits (wpAny_bind (nC (wpAny_pure ?_)))))
 have hb:∀ b:Bool,(!b && false)=false:=by decide
 refine wpAny_ite_split (fun hab=>absurd (show (!(w.params.followText "set-order") && false)=true from hab) (by rw [hb]; decide)) (fun _=>?_)
 refine wpAny_bind (wpAny_pure ?_)
 unfold setEpoch
 refine wpAny_bind (wpAny_bind (wpAny_setState_of ho hd hl.fits (wpAny_pure ?_)))
 dsimp only
 have hsz':(bR l).size=l.length:=by unfold bR; rw [Qg,Qb]
 have e0:gH w l 0=0:=by unfold gH nW; split <;> rfl
 refine wpAny_bind (wpAny_newObj_type (wpAny_pure ⟨_,rfl, "set_iterator",_,⟨_,Qe _ rfl,rfl⟩,bK.lookup,?_⟩))
 rw [e0] at h
 rw [hsz']
 exact h
theorem aBz {Q:Bool->Shared->Prop} (hl:Okl l) (ho:s.heap.get? S=some o) (hex:o.ExactSet) (hd:o.data=.set (bR l) ep (tab (Led w) (l.map (·.1))))
  (h:∀ b,Q b s):wpAny (model prog w) A (Builtin.List.listLengthHint (.ref S)) Q E s:=by
 have hT:s.TypeIs (.ref S) "set" := ⟨o,ho,hex.1⟩
 have hsz':(bR l).size=l.length:=by unfold bR; rw [Qg,Qb]
 have hlen:l.length<=2:=by rcases hl with ⟨p,rfl,_⟩ | ⟨p,q,rfl,_⟩ <;> simp
 unfold Builtin.List.listLengthHint
 refine wpAny_bind (wpAny_specialOf hT PySem.F.slot_set_len.lookup ?_)
 generalize hid:("set.__len__" : String)=id0
 wp_delta
 rw [show splitId id0=some ("set", "__len__") from by subst hid; decide +kernel]
 subst hid
 refine wpAny_bind (wpAny_isInstance (T := "set") (b:=true) hT (by rw [isSubtype_type]; kernel_rfl) ?_)
 refine wpAny_ite_split (fun hab=>absurd hab (by decide)) (fun _=>?_)
 refine wpAny_ite_split (fun _=>?_) (fun hab=>absurd (by decide +kernel) hab)
 refine wpAny_bind (wpAny_typeOf hT ?_)
 exact wpAny_pure (h false)
theorem vE {Q:List Value->Shared->Prop} (hh:A.handled=none) (hl:Okl l) (ho:s.heap.get? S=some o) (hex:o.ExactSet) (hd:o.data=.set (bR l) ep (tab (Led w) (l.map (·.1)))) (hsz:(lC w S ep l).size=l.length)
  (h:∀ h' tk vs,(∀ b o,s.heap.get? b=some o->h'.get? b=some o)->vs=(lC w S ep l).toList.map (·.2)->Q vs { s with heap:=h',toks:=tk }):wpAny (model prog w) A (collect (.ref S)) Q E s:=by
 refine pJ fun R hR=>?_
 generalize hD:s.heap.objs.size=D at *
 have hSD : @LT.lt Nat instLTNat S D:=by rw [<- hD]; exact Ql ho
 generalize hH0:s.heap.push { cls:=.type "list",data:=.seq ([]:List Value).toArray }=H0
 have szH0:H0.objs.size=D+1:=by rw [<- hH0,Qz,hD]
 have ho':H0.get? S=some o:=by rw [<- hH0]; exact Qa _ ho
 have hDl:H0.get? D=some { cls:=.type "list",data:=.seq #[] 0 }:=by rw [<- hH0,<- hD]; exact Qe _ rfl
 have old0:∀ b ob,s.heap.get? b=some ob->H0.get? b=some ob:=fun b ob e=>by rw [<- hH0]; exact Qa _ e
 unfold Builtin.List.listExtendWith
 refine wpAny_bind (wpAny_typeOf (T := "set") ⟨o,ho',hex.1⟩ ?_)
 have h1:Builtin.List.listSameRef (.ref D) (.ref S)=false:=by simp [Builtin.List.listSameRef]; exact Jv hSD
 have h2:(Value.type "set" == Value.type "list")=false:=by decide
 have h3:(Value.type "set" == Value.type "tuple")=false:=by decide
 simp only [h1,h2,h3,Bool.or_false,Jh,if_false]
 refine wpAny_bind (xV (s:={ s with heap:=H0 }) hl ho' hex hd ?_)
 generalize hI:H0.objs.size=I at *
 have W:=(aBy (prog:=prog) (w:=w) (A:=A.in1) hh I S (Qt (by omega)) o ep l hl hd hsz).toS
 have key:∀ (hp:Heap) (c tk:Nat),oJ w hp I S l ep 0->hp.get? S=some o->(∀ b ob,b≠D->H0.get? b=some ob->hp.get? b=some ob)->hp.get? D=some { cls:=.type "list",data:=.seq #[] c } ->
   codeAny (model prog w) A (.builtin "list.extend.loop" ⟨[.ref D,.ref I,.ref D],[]⟩) R { s with heap:=hp,toks:=tk }:=by
  intro hp c tk hit hS hk hDl'
  refine codeAny_extend_loopS W (by rw [sizeLine_eq]; rcases hl with ⟨p,rfl,_⟩ | ⟨p,q,rfl,_⟩ <;> simp) D (by
   simp only [Qk,Qr,Qn,or_false,not_or]
   exact ⟨Qt (by omega),Jv hSD⟩) (.ref D) l.length 0 _ #[] c rfl (Jm _) ⟨hit,hS⟩ hDl' (ItemsOf.nil _) fun s' acc' c' hm hS' hacc=>?_
  rw [Moved.eq_with hm]
  refine hR { s with heap:=s'.heap,toks:=s'.toks } acc' c' hS' (h s'.heap s'.toks acc'.toList (fun b ob e=>hm.heap b ob (fun hmem=>?_) (hk b ob ?_ (old0 b ob e))) ?_)
  ·have hb : @LT.lt Nat instLTNat b D:=by rw [<- hD]; exact Ql e
   rcases Qk.mp hmem with z | z
   ·exact absurd z (Qt hb)
   ·have z':b=I:=by simpa using z
    exact absurd z' (Qt (by omega))
  ·have hb : @LT.lt Nat instLTNat b D:=by rw [<- hD]; exact Ql e
   exact Qt hb
  ·obtain ⟨hs,hi⟩:=hacc
   apply Yc
   intro j
   rw [Qh,Array.getElem?_toList,Array.getElem?_toList]
   cases e:acc'[j]? with
   | none =>
    have hj:l.length<=j:=by
     rw [<- hs]
     exact Array.getElem?_eq_none_iff.mp e
    rw [Array.getElem?_eq_none (by omega)]
    rfl
   | some v =>
    obtain ⟨k,hk⟩:=hi j v e
    rw [hk]
    rfl
 have hit0:oJ w (H0.push { cls:=.type "set_iterator",data:=.fields #[rawInt (gH w l 0:Nat),rawInt ((0:Nat):Int),.ref S,rawInt (l.length:Nat),rawInt (ep:Nat)] }) I S l ep 0:=by
  rw [<- hI]; exact Qe _ rfl
 have hD1:=Qa { cls:=.type "set_iterator",data:=.fields #[rawInt (gH w l 0:Nat),rawInt ((0:Nat):Int),.ref S,rawInt (l.length:Nat),rawInt (ep:Nat)] } hDl
 refine wpAny_bind (wpAny_holding (aBz (s:={ s with heap:=H0.push { cls:=.type "set_iterator",data:=.fields #[rawInt (gH w l 0:Nat),rawInt ((0:Nat):Int),.ref S,rawInt (l.length:Nat),rawInt (ep:Nat)] } }) hl (Qa _ ho') hex hd fun bb=>?_))
 have DI:D≠I:=Qt (by omega)
 refine wpAny_ite_split (fun _=>?_) (fun _=>wpAny_pure ⟨plainId_quiet PySem.F.plain_extend_loop _,key _ 0 _ hit0 (Qa _ ho') (fun b ob _ e=>Qa _ e) hD1⟩)
 refine wpAny_bind (wpAny_rule ?_)
 refine wpAny_bind ?_
 show wpAny _ _ (updateSeq D (·.push .none) >>= fun _=>updateSeq D (·.pop)) _ _ _
 refine wpAny_bind (wpAny_updateSeq hD1 rfl ?_)
 have hS₂:=Jx (Obj.mapSeq (·.push Value.none)) hD1 rfl
 refine wpAny_updateSeq (hz:=by seq_fits) hS₂ rfl ?_
 have hS₃:=Jx (Obj.mapSeq (·.pop)) hS₂ rfl
 refine wpAny_pure ⟨plainId_quiet PySem.F.plain_extend_loop _,key _ _ _ ?_ ?_ (fun b ob hb e=>?_) hS₃⟩
 ·exact (Qw _ _ DI).trans ((Qw _ _ DI).trans hit0)
 ·exact (Qw _ _ (Jv hSD)).trans ((Qw _ _ (Jv hSD)).trans (Qa _ ho'))
 ·exact (Qw _ _ (Ne.symm hb)).trans ((Qw _ _ (Ne.symm hb)).trans (Qa _ e))
end
theorem aFe {α:Type} (next:Nat->Nat) (e:α):pickOrder next #[e] = #[e]:=by
 unfold pickOrder
 simp [pickOrder.go,Wd]
theorem aFf {α:Type} (next:Nat->Nat) (e f:α):pickOrder next #[e,f] = #[e,f]∨pickOrder next #[e,f] = #[f,e]:=by
 unfold pickOrder
 have h:next 0 % 2=0∨next 0 % 2=1:=by omega
 rcases h with h | h
 ·left; simp [pickOrder.go,h,Wd]
 ·right; simp [pickOrder.go,h,Wd]
theorem pN {w:World} {S:Addr} {ep:Nat} {l:List (Nat×Tok)} (hl:Okl l):lC w S ep l=bR l∨lC w S ep l=bR l.reverse:=by
 unfold lC
 by_cases hb:w.params.followText "set-order" = true
 ·rw [if_pos hb]
  rcases hl with ⟨p,rfl,_⟩ | ⟨p,q,rfl,_⟩
  ·exact .inl (aFe _ _)
  ·exact aFf _ _ _
 ·rw [if_neg hb]; exact .inl rfl
theorem aAI {w:World} {S:Addr} {ep:Nat} {l:List (Nat×Tok)} (hl:Okl l):(lC w S ep l).size=l.length:=by
 rcases pN (w:=w) (S:=S) (ep:=ep) hl with e | e
 ·rw [e]; unfold bR; rw [Qg,Qb]
 ·rw [e]; unfold bR; rw [Qg,Qb,Yu]
theorem rY (l:List (Nat×Tok)):IntsAre ((bR l).toList.map (·.2)) (l.map fun p=>(p.1:Int)):=by
 unfold bR
 rw [Xe,List.map_map]
 induction l with
 | nil=>exact .nil
 | cons p l ih=>exact .cons _ p.2 ih
theorem aBA {w:World} {S:Addr} {ep:Nat} {l:List (Nat×Tok)} (hl:Okl l):∃ ns,IntsAre ((lC w S ep l).toList.map (·.2)) ns/\ns.Perm (l.map fun p=>(p.1:Int)):=by
 rcases pN (w:=w) (S:=S) (ep:=ep) hl with e | e
 ·rw [e]; exact ⟨_,rY l,List.Perm.refl _⟩
 ·rw [e]; exact ⟨_,rY l.reverse,by rw [List.map_reverse]; exact List.reverse_perm _⟩
def lN (a b:Nat):List Int:=if a=b then [(a:Int)] else if a < b then [(a:Int),(b:Int)] else [(b:Int),(a:Int)]
theorem vF (a b:Nat) (t u:Tok):(two a b t u).map (fun p=>(p.1:Int))=lN a b:=by
 unfold two lN
 split
 ·rfl
 ·split <;> rfl
theorem vG (a b:Nat):(lN a b).Pairwise (·<=·):=by
 unfold lN
 split
 ·exact Zj _ _
 ·split
  ·refine Xb.mpr ⟨fun x hx=>?_,Zj _ _⟩
   rw [Qr.mp hx]; omega
  ·refine Xb.mpr ⟨fun x hx=>?_,Zj _ _⟩
   rw [Qr.mp hx]; omega
theorem nX (a b:Nat):(lN a b).length<=2:=by
 unfold lN
 split
 ·simp
 ·split <;> simp
def aEl (w:World) (p:Addr) (a b:Nat):HO:=.ext fun h=>∃ t u,SX (Led w) h p (two a b t u)
section
variable {X:Cx}
theorem aAJ (hc:X.calm=true):dP X (.type "set") (fun xs H Q=>∃ (l:Addr) (a b:Nat),xs = [.ref l]/\SqL X.K H l [.int (a:Int),.int (b:Int)]/\a < 8/\b < 8/\∀ p,H p=none->Q (.ref p) (upd H p (aEl X.w p a b))):=by
 intro pins s σ H xs us Q I r h
 obtain ⟨l,a,b,rfl,hL,ha,hb,q⟩:=h
 obtain ⟨u,rfl,rx⟩:=gG r
 cases rx
 obtain ⟨its,rv,pl,hz⟩:=I.list hL
 obtain ⟨u1,u2,rfl,⟨t1,rfl⟩,⟨t2,rfl⟩⟩:=lF rv
 refine tM (I.ok.hd hc) pl.isList ha hb fun h' tk x kp=>?_
 have kp':∀ b o,s.heap.get? b=some o->h'.get? b=some o:=fun b o e=>kp b o (Ql e) e
 have hf:=I.hok.fresh (Qi s.heap.objs.size)
 refine ⟨.ref s.heap.objs.size,_,I.laid (t':=tk) kp' (Qi _) ?_,rfl,q _ hf⟩
 refine ⟨⟨t1,t2,x⟩,?_,fun h1 h2 ⟨t,u,y⟩ k=>⟨t,u,y.keep k⟩⟩
 obtain ⟨o,ep,e,_⟩:=x
 exact ⟨o,e⟩
theorem oF (hc:X.calm=true):dP X (.builtin "sorted") (fun xs H Q=>∃ (p:Addr) (a b:Nat),xs = [.ref p]/\H p=some (aEl X.w p a b)/\a < 8/\b < 8/\∀ q,H q=none->Q (.ref q) (upd H q (.lst ((lN a b).map V.int)))):=by
 intro pins s σ H xs us Q I r h
 obtain ⟨p,a,b,rfl,hp,ha,hb,q⟩:=h
 obtain ⟨u,rfl,rx⟩:=gG r
 cases rx
 obtain ⟨⟨t,u,o,ep,ho,hex,hd⟩,_,_⟩:=I.hok p _ hp
 have hl:Okl (two a b t u):=aEk ha hb
 obtain ⟨ns,hi,hperm⟩:=aBA (w:=X.w) (S:=p) (ep:=ep) hl
 have hlen:ns.length<=2:=by rw [hperm.length_eq,vF]; exact nX a b
 refine aAH (ns:=ns) (by omega) (fun Q' hQ'=>?_) fun h1 h' tk out ns' k1 k2 pl hi' hp' ho'=>?_
 ·exact vE (A:=X.A.in1) (I.ok.hd hc) hl ho hex hd (aAI hl) fun h' tk vs kp e=>hQ' h' tk vs kp (by rw [e]; exact hi)
 ·have I1:Inv X pins σ H { s with heap:=h1,toks:=tk }:=I.kept k1
  have hf:=I1.hok.fresh (Qi _)
  have en:ns'=lN a b:=PySem.W.ksm_same (hp'.trans (by rw [<- vF a b t u]; exact hperm)) ho' (vG a b)
  subst en
  have hl2:=nX a b
  obtain ⟨n,e⟩:=pl
  have I2:Inv X pins σ (upd H h1.objs.size (.lst ((lN a b).map V.int))) { s with heap:=h',toks:=tk } :=
   I1.laid (t':=tk) k2 (Qi _) (show bL X.prog X.w _ _ _ (.lst _) from ⟨by rw [Qb,sizeLine_eq]; omega,out.toList,n,mY hi',by simpa using e⟩)
  exact ⟨.ref h1.objs.size,_,I2,rfl,q _ hf⟩
end
structure Sub (prog:Program) (w:World) (i l:Addr) (n:Nat) (P:Nat->Value->Prop) (st:Nat->Heap->Prop):Prop where
 keep:∀ k h h',st k h->(∀ b,b=i∨b=l->∀ o,h.get? b=some o->h'.get? b=some o)->st k h'
 obj:∀ k h,st k h->(∃ o,h.get? i=some o/\∀ v,o.data≠.cell v)/\∃ o,h.get? l=some o
 item:∀ (A:Around) k (s:Shared) (Q:Value->Shared->Prop) (E:Value->Shared->Prop),k < n->st k s.heap->(∀ v h',P k v->st (k+1) h'->Heap.SameBut i s.heap h'->Q v { s with heap:=h' })->wpAny (model prog w) A (Builtin.SmallTypes.nextOf (.ref i)) Q E s
 done:∀ (A:Around) (s:Shared) (Q:Value->Shared->Prop) (E:Value->Shared->Prop),A.handled=none->st n s.heap->(∀ h' e,Heap.ExtBut i s.heap h'->(∃ o,h'.get? e=some o/\o.cls=.type "StopIteration")->E (.ref e) { s with heap:=h' }) ->
  wpAny (model prog w) A (Builtin.SmallTypes.nextOf (.ref i)) Q E s
theorem aBB (prog:Program) (w:World) (i l:Addr) (items:Array Value) (hne:l≠i):Sub prog w i l items.size (fun k v=>items[k]?=some v) (fun k h=>h.IsListIter i l k/\h.IsList l items) where
 keep:=fun k h h' st kp=>⟨st.1.at fun o e=>kp i (.inl rfl) o e,st.2.at fun o e=>kp l (.inr rfl) o e⟩
 obj:=fun k h st=>by
  obtain ⟨⟨o,e,_,d⟩,⟨o2,e2,_⟩⟩:=st
  exact ⟨⟨o,e,fun v z=>by rw [d] at z; cases z⟩,o2,e2⟩
 item:=fun A k s Q E hk st hQ=>wpAny_nextOf_list_item st.1 st.2 (Array.getElem?_eq_getElem hk) fun h' a b=>hQ _ h' (Array.getElem?_eq_getElem hk) ⟨a,st.2.at fun o e=>b.extBut l o hne e⟩ b
 done:=fun A s Q E hh st hE=>wpAny_nextOf_list_end hh st.1 st.2 (Array.getElem?_eq_none (Qi _)) hE
theorem mG {prog:Program} {w:World} {A:Around} {E:Value->Shared->Prop} {s:Shared} {it t:Addr} {i:Nat} {items:Array Value} {x:Value} {Q:Value->Shared->Prop} (hit:s.heap.IsTupleIter it t i) (ht:s.heap.IsTuple t items) (hx:items[i]?=some x)
  (hQ:∀ h',h'.IsTupleIter it t (i+1)->Heap.SameBut it s.heap h'->Q x { s with heap:=h' }):wpAny (model prog w) A (Builtin.SmallTypes.nextOf (.ref it)) Q E s:=by
 obtain ⟨o,ho,hc,hd⟩:=id hit
 obtain ⟨ol,hol,_,nl,hdl⟩:=ht
 have hT:=hit.typeIs
 unfold Builtin.SmallTypes.nextOf
 refine wpAny_bind (wpAny_callSpecial?_slot (name:=Str.ofString "__next__") hT PySem.F.slot_tuple_iterator_next (wpAny_call_entry PySem.F.slot_tuple_iterator_next hT PySem.F.entry_tuple_iterator_next ?_ (PySem.F.args_tuple_iterator_next_1 _)))
 refine wpAny_bind (m:=field (.ref it) 0) (wpAny_field ho hd (x:=.ref t) rfl ?_)
 have hno:¬ ((Value.ref t==Value.none)=true):=Qq
 show wpAny _ _ (if (Value.ref t==Value.none)=true then _ else _) _ _ s
 rw [if_neg hno]
 refine wpAny_bind (m:=field (.ref it) 1) (wpAny_field ho hd (x:=.int i 0) rfl ?_)
 refine wpAny_bind (m:=seqItems? (.ref t)) (wpAny_seqItems hol hdl ?_)
 simp only [Jg,hx]
 refine wpAny_bind (wpAny_setField ho hd (by simp) (wpAny_pure ⟨x,rfl,wpAny_pure (hQ _ ?_ (Heap.SameBut.update ..))⟩))
 refine ⟨_,Jx _ ho (Obj.isFreed_of_fields (Obj.data_mapFields hd _)),(Obj.cls_mapFields ..).trans hc,?_⟩
 rw [Obj.data_mapFields hd]
 simp [rawInt]
theorem nD {prog:Program} {w:World} {A:Around} {E:Value->Shared->Prop} {s:Shared} {it t:Addr} {i:Nat} {items:Array Value} {Q:Value->Shared->Prop} (hh:A.handled=none) (hit:s.heap.IsTupleIter it t i) (ht:s.heap.IsTuple t items) (hx:items[i]?=none)
  (hE:∀ h' e,Heap.ExtBut it s.heap h'->(∃ o,h'.get? e=some o/\o.cls=.type "StopIteration")->E (.ref e) { s with heap:=h' }):wpAny (model prog w) A (Builtin.SmallTypes.nextOf (.ref it)) Q E s:=by
 obtain ⟨o,ho,hc,hd⟩:=id hit
 obtain ⟨ol,hol,_,nl,hdl⟩:=ht
 have hT:=hit.typeIs
 unfold Builtin.SmallTypes.nextOf
 refine wpAny_bind (wpAny_callSpecial?_slot (name:=Str.ofString "__next__") hT PySem.F.slot_tuple_iterator_next (wpAny_call_entry PySem.F.slot_tuple_iterator_next hT PySem.F.entry_tuple_iterator_next ?_ (PySem.F.args_tuple_iterator_next_1 _)))
 refine wpAny_bind (m:=field (.ref it) 0) (wpAny_field ho hd (x:=.ref t) rfl ?_)
 have hno:¬ ((Value.ref t==Value.none)=true):=Qq
 show wpAny _ _ (if (Value.ref t==Value.none)=true then _ else _) _ _ s
 rw [if_neg hno]
 refine wpAny_bind (m:=field (.ref it) 1) (wpAny_field ho hd (x:=.int i 0) rfl ?_)
 refine wpAny_bind (m:=seqItems? (.ref t)) (wpAny_seqItems hol hdl ?_)
 simp only [Jg,hx]
 refine wpAny_bind (wpAny_rule (wpAny_bind (wpAny_setField ho hd (by simp) ?_)))
 refine wpAny_bind (m:=newExc (.type "StopIteration") []) ?_
 simp only [newExc,newTuple]
 refine wpAny_bind (wpAny_newObj_type ?_ (by size_fits))
 refine wpAny_bind (m:=firstArgMember _ _) (wpAny_of_eq (a:=Value.none) (by first | rfl | (simp only [firstArgMember]; rfl)) ?_)
 refine wpAny_newObj_type ?_ (by size_fits)
 simp only [raiseNew]
 refine wpAny_bind (wpAny_handled ?_)
 first | rw [show A.in1.handled=none from hh] | rw [hh]
 refine wpAny_bind (wpAny_pure (wpAny_throw ?_))
 exact hE _ _ (((Heap.SameBut.update ..).extBut.push _).push _) ⟨_,Qe _ rfl,rfl⟩
theorem aAK (prog:Program) (w:World) (i l:Addr) (items:Array Value) (hne:l≠i):Sub prog w i l items.size (fun k v=>items[k]?=some v) (fun k h=>h.IsTupleIter i l k/\h.IsTuple l items) where
 keep:=fun k h h' st kp=>⟨st.1.at fun o e=>kp i (.inl rfl) o e,by obtain ⟨o,e,r⟩:=st.2; exact ⟨o,kp l (.inr rfl) o e,r⟩⟩
 obj:=fun k h st=>by
  obtain ⟨⟨o,e,_,d⟩,⟨o2,e2,_⟩⟩:=st
  exact ⟨⟨o,e,fun v z=>by rw [d] at z; cases z⟩,o2,e2⟩
 item:=fun A k s Q E hk st hQ=>mG st.1 st.2 (Array.getElem?_eq_getElem hk) fun h' a b=>hQ _ h' (Array.getElem?_eq_getElem hk) ⟨a,by obtain ⟨o,e,r⟩:=st.2; exact ⟨o,b.extBut l o hne e,r⟩⟩ b
 done:=fun A s Q E hh st hE=>nD hh st.1 st.2 (Array.getElem?_eq_none (Qi _)) hE
section
variable {prog:Program} {w:World} {A:Around} {E:Value->Shared->Prop} {s:Shared} {z TI TO i1 i2 l1 l2:Addr} {n1 n2:Nat} {P1 P2:Nat->Value->Prop} {st1 st2:Nat->Heap->Prop}
theorem aCR {k:Nat} {a b:Value} {Q:Value->Shared->Prop} (D:ZipApart z TI TO i1 i2 l1 l2) (S1:Sub prog w i1 l1 n1 P1 st1) (S2:Sub prog w i2 l2 n2 P2 st2)
  (hz:IsZip s.heap z TI TO .none) (hTI:IsPair s.heap TI (.ref i1) (.ref i2)) (hTO:IsPair s.heap TO a b) (h1:st1 k s.heap) (h2:st2 k s.heap) (k1:k < n1) (k2:k < n2)
  (hQ:∀ h' x y,P1 k x->P2 k y->IsZip h' z TI TO (rawInt s.heap.objs.size)->IsPair h' TO x y->st1 (k+1) h'->st2 (k+1) h'->IsPair h' s.heap.objs.size x y ->
   (∀ c o,c≠z->c≠TO->c≠i1->c≠i2->s.heap.get? c=some o->h'.get? c=some o)->Q (.ref s.heap.objs.size) { s with heap:=h' }) :
  wpAny (model prog w) A (Builtin.«zip.__next__» ⟨[.ref z],[]⟩) (fun fin s'=>∃ v,fin=.done (.ret v)/\Q v s') E s:=by
 refine wpAny_bind (m:=field (.ref z) 2) (wpAny_field hz rfl (x:=.bool false) rfl ?_)
 refine wpAny_bind (m:=field (.ref z) 3) (wpAny_field hz rfl (x:=.ref TI) rfl ?_)
 refine wpAny_bind (wpAny_seqItems hTI rfl ?_)
 refine wpAny_bind (m:=Builtin.SmallTypes.ownedTupleIsFree (.ref z)) ?_
 unfold Builtin.SmallTypes.ownedTupleIsFree
 refine wpAny_bind (wpAny_field hz rfl (x:=.none) rfl (wpAny_pure ?_))
 simp only [if_true]
 refine wpAny_bind (wpAny_rule ?_)
 refine wpAny_bind (wpAny_field hz rfl (x:=.ref TO) rfl ?_)
 refine wpAny_bind (wpAny_setField_rec hz (by simp) fun g1 hz1 b1=>?_)
 have hz1':IsZip g1 z TI TO .ellipsis:=hz1
 refine wpAny_bind ?_
 simp only [Zo,Zt,Xs,Ze]
 -- the first one
 have s1:st1 k g1:=S1.keep _ _ _ h1 fun c hc o e=>b1.extBut c o (by rcases hc with r | r <;> rw [r]; exact D.i1z; exact D.l1z) e
 refine wpAny_bind (wpAny_bind (wpAny_onRaise ?_))
 refine wpAny_bind (m:=Builtin.SmallTypes.nextOf (.ref i1)) (S1.item _ k _ _ _ k1 s1 fun x g2 px t1 b2=>wpAny_pure ?_)
 have o2:IsPair g2 TO a b:=b2.extBut _ _ D.TOi1 (b1.extBut _ _ D.TOz hTO)
 refine wpAny_bind (wpAny_seqItems o2 rfl ?_)
 refine wpAny_bind (wpAny_updateSeq_pair o2 fun g3 o3 b3=>?_)
 have o3':IsPair g3 TO x b:=o3
 refine wpAny_bind (wpAny_letGo (wpAny_pure ?_))
 -- the second one
 have s2:st2 k g3:=S2.keep _ _ _ h2 fun c hc o e=>by
  rcases hc with r | r
  ·rw [r] at e ⊢; exact b3.extBut _ _ D.TOi2.symm (b2.extBut _ _ D.i12.symm (b1.extBut _ _ D.i2z e))
  ·rw [r] at e ⊢; exact b3.extBut _ _ D.l2TO (b2.extBut _ _ D.l2i1 (b1.extBut _ _ D.l2z e))
 refine wpAny_bind (wpAny_bind (wpAny_onRaise ?_))
 refine wpAny_bind (m:=Builtin.SmallTypes.nextOf (.ref i2)) (S2.item _ k _ _ _ k2 s2 fun y g4 py t2 b4=>wpAny_pure ?_)
 have o4:IsPair g4 TO x b:=b4.extBut _ _ D.TOi2 o3'
 refine wpAny_bind (wpAny_seqItems o4 rfl ?_)
 refine wpAny_bind (wpAny_updateSeq_pair o4 fun g5 o5 b5=>?_)
 have o5':IsPair g5 TO x y:=o5
 refine wpAny_bind (wpAny_letGo (wpAny_pure (wpAny_pure ?_)))
 refine wpAny_bind (wpAny_seqItems o5' rfl ?_)
 refine wpAny_bind (wpAny_newTuple ?_)
 have sz:g5.objs.size=s.heap.objs.size:=by rw [b5.1,b4.1,b3.1,b2.1,b1.1]
 have z5:IsZip g5 z TI TO .ellipsis:=b5.extBut _ _ D.TOz.symm (b4.extBut _ _ D.i2z.symm (b3.extBut _ _ D.TOz.symm (b2.extBut _ _ D.i1z.symm hz1')))
 have kp5:∀ c o,c≠z->c≠TO->c≠i1->c≠i2->s.heap.get? c=some o->g5.get? c=some o:=fun c o c1 c2 c3 c4 e =>
  b5.extBut _ _ c2 (b4.extBut _ _ c4 (b3.extBut _ _ c2 (b2.extBut _ _ c3 (b1.extBut _ _ c1 e))))
 have t1':st1 (k+1) g5:=S1.keep _ _ _ t1 fun c hc o e=>by
  rcases hc with r | r
  ·rw [r] at e ⊢; exact b5.extBut _ _ D.TOi1.symm (b4.extBut _ _ D.i12 (b3.extBut _ _ D.TOi1.symm e))
  ·rw [r] at e ⊢; exact b5.extBut _ _ D.l1TO (b4.extBut _ _ D.l1i2 (b3.extBut _ _ D.l1TO e))
 have t2':st2 (k+1) g5:=S2.keep _ _ _ t2 fun c hc o e=>by
  rcases hc with r | r
  ·rw [r] at e ⊢; exact b5.extBut _ _ D.TOi2.symm e
  ·rw [r] at e ⊢; exact b5.extBut _ _ D.l2TO e
 have zlt:g5.objs.size≠z:=Jv (Ql z5)
 refine wpAny_bind (m:=Builtin.SmallTypes.ownedTupleHandOut (.ref z) (.ref g5.objs.size)) ?_
 unfold Builtin.SmallTypes.ownedTupleHandOut
 have z6:IsZip (g5.push { cls:=.type "tuple",data:=.seq #[x,y] }) z TI TO .ellipsis:=Qa _ z5
 refine wpAny_bind (wpAny_setField_rec z6 (by simp) fun g7 z7 b7=>?_)
 have z7':IsZip g7 z TI TO (rawInt g5.objs.size):=z7
 refine wpAny_setField_rec z7' (by simp) fun g8 z8 b8=>?_
 have z8':IsZip g8 z TI TO (rawInt g5.objs.size):=z8
 have up:∀ c o,c≠z->g5.get? c=some o->g8.get? c=some o:=fun c o c1 e=>b8.extBut _ _ c1 (b7.extBut _ _ c1 (Qa _ e))
 have T8:IsPair g8 g5.objs.size x y:=b8.extBut _ _ zlt (b7.extBut _ _ zlt (Qe _ rfl))
 rw [sz] at z8' T8
 refine wpAny_pure ⟨_,rfl,?_⟩
 show Q (.ref g5.objs.size) _
 rw [sz]
 refine hQ g8 x y px py z8' (up _ _ D.TOz o5') (S1.keep _ _ _ t1' fun c hc o e=>up c o (by rcases hc with r | r <;> rw [r]; exact D.i1z; exact D.l1z) e) (S2.keep _ _ _ t2' fun c hc o e=>up c o (by rcases hc with r | r <;> rw [r]; exact D.i2z; exact D.l2z) e) T8 fun c o c1 c2 c3 c4 e=>up c o c1 (kp5 c o c1 c2 c3 c4 e)
theorem aEm {k:Nat} {a b:Value} {Q:Fin->Shared->Prop} (hh:A.handled=none) (D:ZipApart z TI TO i1 i2 l1 l2) (S1:Sub prog w i1 l1 n1 P1 st1) (S2:Sub prog w i2 l2 n2 P2 st2)
  (hz:IsZip s.heap z TI TO .none) (hTI:IsPair s.heap TI (.ref i1) (.ref i2)) (hTO:IsPair s.heap TO a b) (h1:st1 k s.heap) (h2:st2 k s.heap) (hend:k=n1/\k<=n2∨k=n2/\k < n1)
  (hE:∀ h' e,(∀ c o,c≠z->c≠TO->c≠i1->c≠i2->s.heap.get? c=some o->h'.get? c=some o)->(∃ o,h'.get? e=some o/\o.cls=.type "StopIteration")->E (.ref e) { s with heap:=h' }) :
  wpAny (model prog w) A (Builtin.«zip.__next__» ⟨[.ref z],[]⟩) Q E s:=by
 refine wpAny_bind (m:=field (.ref z) 2) (wpAny_field hz rfl (x:=.bool false) rfl ?_)
 refine wpAny_bind (m:=field (.ref z) 3) (wpAny_field hz rfl (x:=.ref TI) rfl ?_)
 refine wpAny_bind (wpAny_seqItems hTI rfl ?_)
 refine wpAny_bind (m:=Builtin.SmallTypes.ownedTupleIsFree (.ref z)) ?_
 unfold Builtin.SmallTypes.ownedTupleIsFree
 refine wpAny_bind (wpAny_field hz rfl (x:=.none) rfl (wpAny_pure ?_))
 simp only [if_true]
 refine wpAny_bind (wpAny_rule ?_)
 refine wpAny_bind (wpAny_field hz rfl (x:=.ref TO) rfl ?_)
 refine wpAny_bind (wpAny_setField_rec hz (by simp) fun g1 hz1 b1=>?_)
 have hz1':IsZip g1 z TI TO .ellipsis:=hz1
 refine wpAny_bind ?_
 simp only [Zo,Zt,Xs,Ze]
 have s1:st1 k g1:=S1.keep _ _ _ h1 fun c hc o e=>b1.extBut c o (by rcases hc with r | r <;> rw [r]; exact D.i1z; exact D.l1z) e
 refine wpAny_bind (wpAny_bind (wpAny_onRaise ?_))
 have fin:∀ (g:Heap) (e:Addr) (g0:Heap),(∃ o,g.get? e=some o/\o.cls=.type "StopIteration")->IsZip g z TI TO .ellipsis->(∀ c o,c≠z->c≠TO->c≠i1->c≠i2->s.heap.get? c=some o->g.get? c=some o) ->
   wpAny (model prog w) A (setField (.ref z) 0 .none) (fun _ s'=>E (.ref e) s') E { s with heap:=g }:=fun g e g0 ⟨oe,hoe,hce⟩ hzz kp=>by
  have hez:e≠z:=fun q=>by rw [q,hzz] at hoe; cases hoe; simp at hce
  exact wpAny_setField_rec hzz (by simp) fun g' _ b'=>hE g' e (fun c o c1 c2 c3 c4 q=>b'.extBut _ _ c1 (kp c o c1 c2 c3 c4 q)) ⟨oe,b'.extBut _ _ hez hoe,hce⟩
 rcases hend with ⟨e1,_⟩ | ⟨e2,k1⟩
 ·rw [e1] at s1
  refine wpAny_bind (m:=Builtin.SmallTypes.nextOf (.ref i1)) (S1.done _ _ _ _ hh s1 fun g2 e b2 he=>?_)
  exact fin g2 e g1 he (b2 _ _ D.i1z.symm hz1') fun c o c1 _ c3 _ q=>b2 _ _ c3 (b1.extBut _ _ c1 q)
 ·refine wpAny_bind (m:=Builtin.SmallTypes.nextOf (.ref i1)) (S1.item _ k _ _ _ k1 s1 fun x g2 px t1 b2=>wpAny_pure ?_)
  have o2:IsPair g2 TO a b:=b2.extBut _ _ D.TOi1 (b1.extBut _ _ D.TOz hTO)
  refine wpAny_bind (wpAny_seqItems o2 rfl ?_)
  refine wpAny_bind (wpAny_updateSeq_pair o2 fun g3 o3 b3=>?_)
  refine wpAny_bind (wpAny_letGo (wpAny_pure ?_))
  have s2:st2 n2 g3:=by
   rw [<- e2]
   exact S2.keep _ _ _ h2 fun c hc o e=>by
    rcases hc with r | r
    ·rw [r] at e ⊢; exact b3.extBut _ _ D.TOi2.symm (b2.extBut _ _ D.i12.symm (b1.extBut _ _ D.i2z e))
    ·rw [r] at e ⊢; exact b3.extBut _ _ D.l2TO (b2.extBut _ _ D.l2i1 (b1.extBut _ _ D.l2z e))
  refine wpAny_bind (wpAny_bind (wpAny_onRaise ?_))
  refine wpAny_bind (m:=Builtin.SmallTypes.nextOf (.ref i2)) (S2.done _ _ _ _ hh s2 fun g4 e b4 he=>?_)
  exact fin g4 e g3 he (b4 _ _ D.i2z.symm (b3.extBut _ _ D.TOz.symm (b2.extBut _ _ D.i1z.symm hz1'))) fun c o c1 c2 c3 c4 q=>b4 _ _ c4 (b3.extBut _ _ c2 (b2.extBut _ _ c3 (b1.extBut _ _ c1 q)))
end
inductive Sk where
 | l | t
def SqK (k:Sk) (K:PySem.W.Frag) (H:Hp) (a:Addr) (xs:List V):Prop:=match k with | .l=>SqL K H a xs | .t=>SqT K H a xs
def AtK (k:Sk) (h:Heap) (a:Addr) (its:Array Value):Prop:=match k with | .l=>h.IsList a its | .t=>h.IsTuple a its
def ItK (k:Sk) (h:Heap) (i a:Addr) (n:Nat):Prop:=match k with | .l=>h.IsListIter i a n | .t=>h.IsTupleIter i a n
def itK (k:Sk) (a:Addr):Obj:=match k with | .l=>{ cls:=.type "list_iterator",data:=.fields #[.ref a,.int 0 0] } | .t=>{ cls:=.type "tuple_iterator",data:=.fields #[.ref a,.int 0 0] }
theorem ItK.new (k:Sk) (h:Heap) (a:Addr):ItK k (h.push (itK k a)) h.objs.size a 0:=by
 cases k
 ·exact ⟨_,Qe _ rfl,rfl,rfl⟩
 ·exact ⟨_,Qe _ rfl,rfl,rfl⟩
theorem ItK.obj {k:Sk} {h:Heap} {i a:Addr} {n:Nat} (x:ItK k h i a n):∃ o,h.get? i=some o/\∀ v,o.data≠.cell v:=by
 cases k
 ·obtain ⟨o,e,_,d⟩:=x; exact ⟨o,e,fun v z=>by rw [d] at z; cases z⟩
 ·obtain ⟨o,e,_,d⟩:=x; exact ⟨o,e,fun v z=>by rw [d] at z; cases z⟩
theorem ItK.at {k:Sk} {h h':Heap} {i a:Addr} {n:Nat} (x:ItK k h i a n) (kp:∀ o,h.get? i=some o->h'.get? i=some o):ItK k h' i a n:=by
 cases k
 ·exact Heap.IsListIter.at x kp
 ·exact Heap.IsTupleIter.at x kp
theorem AtK.at {k:Sk} {h h':Heap} {a:Addr} {its:Array Value} (x:AtK k h a its) (kp:∀ o,h.get? a=some o->h'.get? a=some o):AtK k h' a its:=by
 cases k
 ·exact Heap.IsList.at x kp
 ·obtain ⟨o,e,r⟩:=x; exact ⟨o,kp o e,r⟩
theorem rC (k:Sk) (prog:Program) (w:World) (i l:Addr) (items:Array Value) (hne:l≠i):Sub prog w i l items.size (fun j v=>items[j]?=some v) (fun j h=>ItK k h i l j/\AtK k h l items):=by
 cases k
 ·exact aBB prog w i l items hne
 ·exact aAK prog w i l items hne
theorem vH {prog:Program} {w:World} {A:Around} {E:Value->Shared->Prop} {s:Shared} {k:Sk} {a:Addr} {its:Array Value} {Q:Value->Shared->Prop} (h:AtK k s.heap a its) (hQ:Q (.ref s.heap.objs.size) { s with heap:=s.heap.push (itK k a) }):wpAny (model prog w) A (pyIter (.ref a)) Q E s:=by
 cases k
 ·exact wpAny_pyIter_list h hQ
 ·exact wpAny_pyIter_tuple h hQ
section
variable {X:Cx} {pins:List (Addr×Obj)} {σ:St} {H:Hp} {s:Shared}
theorem Inv.seqK (I:Inv X pins σ H s) {k:Sk} {a:Addr} {xs:List V} (h:SqK k X.K H a xs):∃ its:List Value,aZ xs its/\AtK k s.heap a its.toArray:=by
 cases k
 ·obtain ⟨its,r,p,_⟩:=I.list h; exact ⟨its,r,p.isList⟩
 ·obtain ⟨its,r,p,_⟩:=I.tuple h; exact ⟨its,r,p⟩
theorem Inv.seqK_inj (I:Inv X pins σ H s) {k:Sk} {a:Addr} {xs ys:List V} (h:SqK k X.K H a xs) (h':SqK k X.K H a ys):xs=ys:=by
 cases k
 ·exact I.list_inj h h'
 ·exact I.tuple_inj h h'
theorem Inv.seq_ne (I:Inv X pins σ H s) {k:Sk} {a b:Addr} {xs:List V} (h:SqK k X.K H a xs) (f:oS X pins H b):a≠b:=by
 have rd:∀ {u:HO},Rd H a u->a≠b:=fun {u} r z=>by
  rcases r with r | ⟨o,r⟩ <;> (rw [z,f.1] at r; cases r)
 have kk:∀ {o:Obj},X.K.lookup a=some o->a≠b:=fun {o} e z=>by
  have e1:=I.ok.mod.kin a o e
  rcases f.2.2.2.1 with q | q
  ·exact I.ok.noex a o e1 (z ▸ q)
  ·exact Jb _ (Qp (Ql (I.ok.bs a o e1).1) (z ▸ q))
 cases k
 ·rcases h with h | ⟨o,_,_,e,_⟩
  ·exact rd h
  ·exact kk e
 ·rcases h with h | ⟨o,_,_,e,_⟩
  ·exact rd h
  ·exact kk e
theorem Inv.turnedL {h':Heap} {t':Nat} (ch:List Addr) (I:Inv X pins σ H s) (k:∀ b o,b∉ch->s.heap.get? b=some o->h'.get? b=some o) (f:∀ b∈ch,oS X pins H b):Inv X pins σ H { s with heap:=h',toks:=t' }:=by
 have nit:∀ b u,H b=some u->b∉ch:=fun b u e z=>by rw [(f b z).1] at e; cases e
 have nL:X.env.locals∉ch:=fun z=>(f _ z).2.1 rfl
 refine I.step (g':=s.gens) (d':=s.drawn) (ch:=ch) (fun b hb=>⟨(f b hb).2.2.2.1,(f b hb).2.1,(f b hb).2.2.2.2.1,(f b hb).2.2.2.2.2⟩) (fun b o _ _ hc e _=>k b o hc e) (fun b o _ _ hc e _=>⟨o.slots,k b o hc e⟩) (fun _ _ _ _ n=>n)
  (fun b o hc e=>⟨o,k b o hc e⟩) (fun _ _ e=>e) (fun _ _ _ e=>e) (fun b ps e=>⟨#[],by rw [e]; simp⟩) (fun m hm=>?_) (fun b u e=>?_) I.bare
 ·obtain ⟨o,es,ep,ho,r⟩:=hm
  exact ⟨o,es,ep,k _ o nL ho,r⟩
 ·refine (I.hok b u e).stay (fun c v hc q=>k c v ?_ q) (fun _ q=>q) fun _ _ q=>q
  rcases hc with z | z
  ·rw [z]; exact nit b u e
  ·exact nit c _ z
theorem Inv.trackO {D:Addr} {u:HO} (I:Inv X pins σ H s) (new:bL X.prog X.w (upd H D u) s.heap D u) (hn:H D=none) (hL:D≠X.env.locals)
  (h1:X.s₀.heap.objs.size<=D) (h2:∀ x c,X.env.cells.lookup x=some c->c≠D) (h3:∀ p∈X.pn++pins,p.1≠D):Inv X pins σ (upd H D u) s:=by
 have ne:∀ b v,H b=some v->b≠D:=fun b v e z=>by rw [z,hn] at e; cases e
 refine I.step (g':=s.gens) (d':=s.drawn) (t':=s.toks) (h':=s.heap) (ch:=[D]) (fun b hb=>?_) (fun b o _ _ _ e _=>e) (fun b o _ _ _ e _=>⟨o.slots,e⟩) (fun b o hc _ n=>?_) (fun b o _ e=>⟨o,e⟩)
  (fun b xs e=>by rw [aK (ne b _ e)]; exact e) (fun b o v e=>by rw [aK (ne b _ e)]; exact e) (fun b ps e=>⟨#[],by rw [aK (ne b _ e),e]; simp⟩) (fun _ h=>h) (fun b v e=>?_) I.bare
 ·have e:b=D:=by simpa using hb
  subst e
  exact ⟨.inr h1,hL,h2,h3⟩
 ·rw [aK (by simpa using hc)]; exact n
 ·by_cases hb:b=D
  ·subst hb
   rw [aC] at e; cases e
   exact new
  ·rw [aK hb] at e
   exact (I.hok b v e).stay (fun c v _ q=>q) (fun c q=>by rw [aK (ne c _ q)]; exact q) fun c xs q=>by rw [aK (ne c _ q)]; exact q
end
def Itz (K:PySem.W.Frag) (k1 k2:Sk) (a b:Addr):It :=
 ⟨fun i H => ∃ xs ys x y, SqK k1 K H a xs /\ SqK k2 K H b ys /\ xs[i]? = some x /\ ys[i]? = some y,
  fun i H v H'=>∃ p,H p=none/\v=.ref p/\∀ xs ys,SqK k1 K H a xs->SqK k2 K H b ys->∃ x y,xs[i]?=some x/\ys[i]?=some y/\H'=upd H p (.tup [x,y]),
  fun i H=>∃ xs ys,SqK k1 K H a xs/\SqK k2 K H b ys/\min xs.length ys.length=i⟩
theorem aBC {P:Program} {w:World} {K:PySem.W.Frag} {es:List Expr} {x1} {pos:Pos} (k1 k2:Sk) (a b z TI TO i1 i2:Addr) (D:∀ l1 l2:Addr,(∀ c∈[z,TI,TO,i1,i2],l1≠c)->(∀ c∈[z,TI,TO,i1,i2],l2≠c)->ZipApart z TI TO i1 i2 l1 l2) :
  Turn P w K (.Tuple es x1 pos) (Itz K k1 k2 a b) [z,TI,TO,i1,i2] z (fun i h=>IsZip h z TI TO .none/\IsPair h TI (.ref i1) (.ref i2)/\(∃ x y,IsPair h TO x y)/\ItK k1 h i1 a i/\ItK k2 h i2 b i) where
 mem:=by simp
 obj:=fun i h st c hc=>by
  obtain ⟨hz,hTI,⟨x,y,hTO⟩,h1,h2⟩:=st
  simp only [Qk,Qn,or_false] at hc
  rcases hc with rfl | rfl | rfl | rfl | rfl
  ·exact ⟨_,hz,fun v q=>by cases q⟩
  ·exact ⟨_,hTI,fun v q=>by cases q⟩
  ·exact ⟨_,hTO,fun v q=>by cases q⟩
  ·exact h1.obj
  ·exact h2.obj
 keep:=fun i h h' st k=>by
  obtain ⟨hz,hTI,⟨x,y,hTO⟩,h1,h2⟩:=st
  exact ⟨k z (by simp) _ hz,k TI (by simp) _ hTI,⟨x,y,k TO (by simp) _ hTO⟩,h1.at fun o e=>k i1 (by simp) o e,h2.at fun o e=>k i2 (by simp) o e⟩
 item:=by
  intro X hP hw hK hc i pins s σ H E I hf st hg
  subst hP hw hK
  obtain ⟨hz,hTI,⟨x0,y0,hTO⟩,h1,h2⟩:=st
  obtain ⟨xs,ys,x,y,ha,hb,hx,hy⟩:=hg
  obtain ⟨its,rv,pa⟩:=I.seqK ha
  obtain ⟨jts,rw',pb⟩:=I.seqK hb
  obtain ⟨u,hu,ru⟩:=rv.get hx
  obtain ⟨v,hv,rv2⟩:=rw'.get hy
  have na:∀ c∈[z,TI,TO,i1,i2],a≠c:=fun c hc'=>I.seq_ne ha (hf c hc')
  have nb:∀ c∈[z,TI,TO,i1,i2],b≠c:=fun c hc'=>I.seq_ne hb (hf c hc')
  have DD:=D a b na nb
  have hT:s.TypeIs (.ref z) "zip" := ⟨_,hz,rfl⟩
  have hi1:i < its.toArray.size:=by rw [Qg]; exact (Qc.mp hu).1
  have hi2:i < jts.toArray.size:=by rw [Qg]; exact (Qc.mp hv).1
  unfold pyNext
  refine wpAny_bind (wpAny_attempt (wpAny_callSpecial?_slot (name:=Str.ofString "__next__") hT PySem.F.slot_zip_next (wpAny_call_entry PySem.F.slot_zip_next hT PySem.F.entry_zip_next
   (aCR DD (rC k1 X.prog X.w i1 a its.toArray (na i1 (by simp))) (rC k2 X.prog X.w i2 b jts.toArray (nb i2 (by simp))) hz hTI hTO ⟨h1,pa⟩ ⟨h2,pb⟩ hi1 hi2 fun h' u' v' pu pv hz' hTO' s1 s2 hT' kp=>wpAny_pure ?_) (PySem.F.args_zip_next_1 _))))
  have eu:u'=u:=by
   have q:its[i]?=some u':=by simpa using pu
   rw [hu] at q
   exact (Option.some.inj q).symm
  have ev:v'=v:=by
   have q:jts[i]?=some v':=by simpa using pv
   rw [hv] at q
   exact (Option.some.inj q).symm
  subst eu ev
  refine ⟨_,rfl,wpAny_letOwnedTupleGo_zip hz' fun h2 hz2 sb2=>?_⟩
  have Tz:s.heap.objs.size≠z:=Jv (Ql hz)
  have hT2:IsPair h2 s.heap.objs.size u' v':=sb2.extBut _ _ Tz hT'
  have hf0:=I.hok.fresh (Qi s.heap.objs.size)
  have fz:=I.fpOk (Qi s.heap.objs.size) hf0
  have I2:Inv X pins σ H { s with heap:=h2 }:=by
   refine I.turnedL (t':=s.toks) [z,TO,i1,i2] (fun c o hc' e=>?_) (fun c hc'=>hf c ?_)
   ·simp only [Qk,Qn,or_false,not_or] at hc'
    exact sb2.extBut _ _ hc'.1 (kp c o hc'.1 hc'.2.1 hc'.2.2.1 hc'.2.2.2 e)
   ·simp only [Qk,Qn,or_false] at hc' ⊢
    rcases hc' with r | r | r | r
    ·exact .inl r
    ·exact .inr (.inr (.inl r))
    ·exact .inr (.inr (.inr (.inl r)))
    ·exact .inr (.inr (.inr (.inr r)))
  have I3:Inv X pins σ (upd H s.heap.objs.size (.tup [x,y])) { s with heap:=h2 }:=by
   refine I2.trackO (show bL X.prog X.w _ _ _ (.tup [x,y]) from ⟨by show 2<=sizeLine; rw [sizeLine_eq]; decide,[u',v'],0,.cons ru (.cons rv2 .nil),hT2⟩) hf0 fz.2.1 I.sz fz.2.2.2.2.1 fz.2.2.2.2.2
  refine ⟨.ref s.heap.objs.size,_,I3,rfl,⟨s.heap.objs.size,hf0,rfl,fun xs' ys' ha' hb'=>?_⟩,⟨hz2,sb2.extBut _ _ DD.TIz (kp _ _ DD.TIz DD.TITO DD.TIi1 DD.TIi2 hTI),⟨_,_,sb2.extBut _ _ DD.TOz hTO'⟩,s1.1.at fun o e=>sb2.extBut _ _ DD.i1z e,s2.1.at fun o e=>sb2.extBut _ _ DD.i2z e⟩,fun c hc'=>?_⟩
  ·rw [I.seqK_inj ha' ha,I.seqK_inj hb' hb]
   exact ⟨x,y,hx,hy,rfl⟩
  ·have cl:c≠s.heap.objs.size:=by
    obtain ⟨o,e⟩:∃ o,s.heap.get? c=some o:=by
     simp only [Qk,Qn,or_false] at hc'
     rcases hc' with rfl | rfl | rfl | rfl | rfl
     ·exact ⟨_,hz⟩
     ·exact ⟨_,hTI⟩
     ·exact ⟨_,hTO⟩
     ·obtain ⟨o,e,_⟩:=h1.obj; exact ⟨o,e⟩
     ·obtain ⟨o,e,_⟩:=h2.obj; exact ⟨o,e⟩
    exact Qt (Ql e)
   rw [aK cl]
   exact (hf c hc').1
 done:=by
  intro X hP hw hK hc i pins s σ H E I hf st hg
  subst hP hw hK
  obtain ⟨hz,hTI,⟨x0,y0,hTO⟩,h1,h2⟩:=st
  obtain ⟨xs,ys,ha,hb,hmin⟩:=hg
  obtain ⟨its,rv,pa⟩:=I.seqK ha
  obtain ⟨jts,rw',pb⟩:=I.seqK hb
  have la:=rv.length
  have lb:=rw'.length
  have na:∀ c∈[z,TI,TO,i1,i2],a≠c:=fun c hc'=>I.seq_ne ha (hf c hc')
  have nb:∀ c∈[z,TI,TO,i1,i2],b≠c:=fun c hc'=>I.seq_ne hb (hf c hc')
  have DD:=D a b na nb
  have hT:s.TypeIs (.ref z) "zip" := ⟨_,hz,rfl⟩
  unfold pyNext
  refine wpAny_bind (wpAny_attempt (wpAny_callSpecial?_slot (name:=Str.ofString "__next__") hT PySem.F.slot_zip_next (wpAny_call_entry PySem.F.slot_zip_next hT PySem.F.entry_zip_next
   (aEm (I.ok.hd hc) DD (rC k1 X.prog X.w i1 a its.toArray (na i1 (by simp))) (rC k2 X.prog X.w i2 b jts.toArray (nb i2 (by simp))) hz hTI hTO ⟨h1,pa⟩ ⟨h2,pb⟩ (by rw [Qg,Qg]; omega) fun h' e kp he=>?_) (PySem.F.args_zip_next_1 _))))
  obtain ⟨oe,hoe,hce⟩:=he
  refine wpAny_bind (wpAny_isInstance (T := "StopIteration") (b:=true) ⟨oe,hoe,hce⟩ isSubtype_stop (wpAny_pure ⟨rfl,?_⟩))
  refine I.turnedL (t':=s.toks) [z,TO,i1,i2] (fun c o hc' e=>?_) (fun c hc'=>hf c ?_)
  ·simp only [Qk,Qn,or_false,not_or] at hc'
   exact kp c o hc'.1 hc'.2.1 hc'.2.2.1 hc'.2.2.2 e
  ·simp only [Qk,Qn,or_false] at hc' ⊢
   rcases hc' with r | r | r | r
   ·exact .inl r
   ·exact .inr (.inr (.inl r))
   ·exact .inr (.inr (.inr (.inl r)))
   ·exact .inr (.inr (.inr (.inr r)))
 self:=fun _ _ _ _ _ st h=>wpAny_pyIter_zip st.1 h
abbrev zh1 (k1:Sk) (h:Heap) (a:Addr):Heap:=h.push (itK k1 a)
abbrev zh2 (k1 k2:Sk) (h:Heap) (a b:Addr):Heap:=(zh1 k1 h a).push (itK k2 b)
abbrev zh3 (k1 k2:Sk) (h:Heap) (a b:Addr):Heap:=(zh2 k1 k2 h a b).push { cls:=.type "tuple",data:=.seq #[.ref h.objs.size,.ref (zh1 k1 h a).objs.size] }
abbrev zh4 (k1 k2:Sk) (h:Heap) (a b:Addr):Heap:=(zh3 k1 k2 h a b).push { cls:=.type "tuple",data:=.seq #[.none,.none] }
abbrev zh5 (k1 k2:Sk) (h:Heap) (a b:Addr):Heap:=(zh4 k1 k2 h a b).push { cls:=.type "zip",data:=.fields #[.none,.bool false,.bool false,.ref (zh2 k1 k2 h a b).objs.size,.ref (zh3 k1 k2 h a b).objs.size] }
theorem vI (k1 k2:Sk) (a b:Addr) (xs ys:Array Value) :
  Meets (Builtin.«zip.__new__» ⟨[.type "zip",.ref a,.ref b],[]⟩) (fun _ R s=>AtK k1 s.heap a xs/\AtK k2 s.heap b ys/\R (.ok (.ret (.ref (zh4 k1 k2 s.heap a b).objs.size))) { s with heap:=zh5 k1 k2 s.heap a b }) :=
 .of_wp fun prog w A R s h=>by
  obtain ⟨hp,g,d,tk,os⟩:=s
  obtain ⟨hl1,hl2,h⟩:=h
  have hsub:=sub_zip
  have hA:AtK k1 (Shared.heap ⟨hp,g,d,tk,os⟩) a xs:=hl1
  have hB:AtK k2 (Shared.heap ⟨hp.push (itK k1 a),g,d,tk,os⟩) b ys:=AtK.at hl2 fun o e=>Qa _ e
  wp_walk using vH hA,vH hB
  exact ⟨_,rfl,h⟩
section
variable {X:Cx} {es:List Expr} {x1:Nat} {tpos:Pos}
def aFS (K:PySem.W.Frag) (k1 k2:Sk) (ta:TA):TI:=fun σ H R=>ta σ H fun vs H1=>∃ a b xs ys,vs = [.ref a,.ref b]/\SqK k1 K H1 a xs/\SqK k2 K H1 b ys/\R (Itz K k1 k2 a b) H1
theorem aEn (k1 k2:Sk) {a b:Expr} {ta:TA} {p pos:Pos} (hg:Gl X "zip") (hm:X.mg "zip" = none) (ha:PA X [a,b] ta) (hs:starEach [a,b] X.env = [(false,eval a X.env),(false,eval b X.env)]:=by rfl) (hs2:starEach [b] X.env = [(false,eval b X.env)]:=by rfl) :
  PI X (.Tuple es x1 tpos) (.Call (.Name "zip" p) [a,b] [] pos) (aFS X.K k1 k2 ta):=by
 intro pins s σ H R I h
 refine Call_ (iB (u:=.type "zip") I hg hm (by decide +kernel) (PyProof.Rows.callWith_type1 (thn (ha pos pins s σ H _ I h) fun us s1 hx9=>?_) (by rw [hs,hs2]) (by rw [hs2]; rfl)))
 obtain ⟨vs,H1,I1,r1,q1⟩:=hx9
 obtain ⟨l1,l2,xs,ys,rfl,hA,hB,q⟩:=q1
 obtain ⟨u1,u2,rfl,r1',r2'⟩:=lF r1
 cases r1'
 cases r2'
 obtain ⟨its,rv,pa⟩:=I1.seqK hA
 obtain ⟨jts,rw',pb⟩:=I1.seqK hB
 refine callType_new PySem.F.called_zip (by decide) (PySem.F.typeCall_zip_2 _ _) (PySem.F.newCall_zip_2 _ _) (fun obj=>PySem.F.args_object_init_3 obj _ _) PySem.F.entry_zip_new (vI k1 k2 l1 l2 its.toArray jts.toArray) ⟨pa,pb,?_⟩
 have n1:(zh1 k1 s1.heap l1).objs.size=s1.heap.objs.size+1:=Qz ..
 have n2:(zh2 k1 k2 s1.heap l1 l2).objs.size=s1.heap.objs.size+2:=by rw [Qz,n1]
 have n3:(zh3 k1 k2 s1.heap l1 l2).objs.size=s1.heap.objs.size+3:=by rw [Qz,n2]
 have n4:(zh4 k1 k2 s1.heap l1 l2).objs.size=s1.heap.objs.size+4:=by rw [Qz,n3]
 have g5:IsZip (zh5 k1 k2 s1.heap l1 l2) (zh4 k1 k2 s1.heap l1 l2).objs.size (zh2 k1 k2 s1.heap l1 l2).objs.size (zh3 k1 k2 s1.heap l1 l2).objs.size .none:=Qe _ rfl
 have g4:IsPair (zh5 k1 k2 s1.heap l1 l2) (zh3 k1 k2 s1.heap l1 l2).objs.size .none .none:=Qa _ (Qe _ rfl)
 have g3:IsPair (zh5 k1 k2 s1.heap l1 l2) (zh2 k1 k2 s1.heap l1 l2).objs.size (.ref s1.heap.objs.size) (.ref (zh1 k1 s1.heap l1).objs.size):=Qa _ (Qa _ (Qe _ rfl))
 have g2:ItK k2 (zh5 k1 k2 s1.heap l1 l2) (zh1 k1 s1.heap l1).objs.size l2 0:=(ItK.new k2 (zh1 k1 s1.heap l1) l2).at fun o e=>Qa _ (Qa _ (Qa _ e))
 have g1:ItK k1 (zh5 k1 k2 s1.heap l1 l2) s1.heap.objs.size l1 0:=(ItK.new k1 s1.heap l1).at fun o e=>Qa _ (Qa _ (Qa _ (Qa _ e)))
 have kp:∀ c o,s1.heap.get? c=some o->(zh5 k1 k2 s1.heap l1 l2).get? c=some o:=fun c o e=>Qa _ (Qa _ (Qa _ (Qa _ (Qa _ e))))
 refine ⟨⟨_,g5,rfl⟩,wpAny_pyIter_zip (f0:=.none) g5 ?_⟩
 rw [n1,n2,n3,n4] at *
 have I2:Inv X pins σ H1 { s1 with heap:=zh5 k1 k2 s1.heap l1 l2 }:=I1.kept (t':=s1.toks) kp
 refine ⟨s1.heap.objs.size+4,[s1.heap.objs.size+4,s1.heap.objs.size+2,s1.heap.objs.size+3,s1.heap.objs.size,s1.heap.objs.size+1],_,_,H1,rfl,I2,aBC k1 k2 l1 l2 _ _ _ _ _ ?_,⟨g5,g3,⟨_,_,g4⟩,g1,g2⟩,fun c hc=>?_,q⟩
 ·intro m1 m2 h1 h2
  have d:∀ i j:Nat,i≠j->s1.heap.objs.size+i≠s1.heap.objs.size+j:=fun i j h=>by omega
  exact ⟨d 2 4 (by decide),d 3 4 (by decide),d 0 4 (by decide),d 1 4 (by decide),d 2 3 (by decide),d 2 0 (by decide),d 2 1 (by decide),d 3 0 (by decide),d 3 1 (by decide),d 0 1 (by decide),
   h1 _ (by simp),h1 _ (by simp),h1 _ (by simp),h1 _ (by simp),h2 _ (by simp),h2 _ (by simp),h2 _ (by simp),h2 _ (by simp)⟩
 ·have hc':s1.heap.objs.size<=c:=by
   simp only [Qk,Qn,or_false] at hc
   rcases hc with r | r | r | r | r
   ·rw [r]; exact Xo _ _
   ·rw [r]; exact Xo _ _
   ·rw [r]; exact Xo _ _
   ·rw [r]; exact Qi _
   ·rw [r]; exact Xo _ _
  exact I1.fpOk hc' (I1.hok.fresh hc')
end
open PySem.AutoSeq1 (wpAny_loadPart')
theorem rD (l b:Addr) (items items2:Array Value) (n n2:Nat) (dd dd2:Option Addr) (sl sl2:Array (Option Value)) (hc0:items.isEmpty=true) :
  Meets (Builtin.«tuple.__add__» ⟨[.ref l,.ref b],[]⟩) (fun _ R s=>s.heap.get? l=some { cls:=.type "tuple",dict:=dd,data:=.seq items n,slots:=sl }/\s.heap.get? b=some { cls:=.type "tuple",dict:=dd2,data:=.seq items2 n2,slots:=sl2 }/\R (.ok (.ret (Value.ref b))) s) :=
 .of_wp fun prog w A R s h=>by
  obtain ⟨hp,g,d,tk,os⟩:=s
  obtain ⟨hl,hb,h⟩:=h
  have f1:=AutoSeq1.idx_int
  have f2:=AutoSeq1.sub_tuple_tuple
  wp_walk using wpAny_loadPart' hl,wpAny_loadPart' hb
  exact ⟨_,rfl,h⟩
section
variable {X:Cx}
theorem aCS:OpR X (binaryOp .Add) (fun x y H Q=>∃ a b xs ys,x=.ref a/\y=.ref b/\SqT X.K H a xs/\SqT X.K H b ys/\xs.length+ys.length<=sizeLine/\∀ p H',aF H H'->SqT X.K H' p (xs++ys)->Q (.ref p) H'):=by
 intro pins s σ H x y v u Q I rx ry h
 obtain ⟨a,b,xs,ys,rfl,rfl,ha,hb,hz,q⟩:=h
 by_cases hx:xs = []
 ·subst hx
  cases rx
  cases ry
  obtain ⟨its,r1,⟨⟨cls,dd,data,sl⟩,ho,hc,n,hd⟩,_⟩:=I.tuple ha
  obtain ⟨its2,r2,⟨⟨cls2,dd2,data2,sl2⟩,ho2,hc2,n2,hd2⟩,_⟩:=I.tuple hb
  simp only at hc hd hc2 hd2
  subst hc hd hc2 hd2
  cases r1
  exact concat_meets ⟨_,ho,rfl⟩ ⟨_,ho2,rfl⟩ noFill_tuple_add seq_tuple_add PySem.F.slot_tuple_add PySem.F.entry_tuple_add (PySem.F.args_tuple_add_2 _ _)
   (rD a b _ _ n n2 dd dd2 sl sl2 rfl) ⟨ho,ho2,⟨.ref b,H,I,rfl,q b H (aF.refl H) hb⟩⟩
 ·refine aCO pins s σ H _ _ v u Q I rx ry ⟨a,b,xs,ys,rfl,rfl,ha,hb,hx,hz,fun e=>?_,fun e p hp=>?_⟩
  ·subst e
   exact q a H (aF.refl H) (by rw [Zr]; exact ha)
  ·exact q p _ (aF.new hp) (SqT.of aC)
theorem lD {prog:Program} {w:World} {A:Around} {E:Value->Shared->Prop} {s:Shared} {t sl:Addr} {items:Array Value} {vl vu:Value} {lo hi:Option Int} {Q:Value->Shared->Prop} (ht:IsTup s.heap t items) (hs:s.heap.IsSliceOf sl vl vu .none) (pl:IsPart vl lo) (pu:IsPart vu hi)
  (hw:HT.sIx items.size 0 lo=0/\HT.sIx items.size items.size hi=items.size) (h:Q (.ref t) s):wpAny (model prog w) A (getItem (.ref t) (.ref sl)) Q E s:=by
 obtain ⟨os,hos,hcs,hds⟩:=id hs
 have hTs:s.TypeIs (.ref sl) "slice" := ⟨os,hos,hcs⟩
 unfold getItem
 try with_reducible refine wpAny_holding ?_
 first | refine wpAny_bind (wpAny_pure ?_) | skip
 refine wpAny_bind (wpAny_sequenceKey ht.typeIs (by decide) ?_)
 refine wpAny_bind (wpAny_callSpecial?_slot (name:=Str.ofString "__getitem__") ht.typeIs PyProof.Rows.slot_tuple_getitem
  (wpAny_call_entry PyProof.Rows.slot_tuple_getitem ht.typeIs entry_tuple_getitem ?_ (args_tuple_getitem _ _)))
 refine wpAny_bind (m:=Builtin.Tuple.tupleItemsOf (.ref t)) (tupleItemsOf_ ht ?_)
 refine wpAny_bind (wpAny_typeOf hTs ?_)
 rw [if_pos (by decide)]
 refine wpAny_bind (HT.sliceApplied_gen hs pl pu ?_)
 have hyes:(((HT.sIx items.size 0 lo:Nat):Int)==0 && (1:Int)==1 && (HT.sIx items.size items.size hi - HT.sIx items.size 0 lo)==items.size)=true:=by
  rw [hw.1,hw.2]; simp
 show wpAny _ _ (if (((HT.sIx items.size 0 lo:Nat):Int)==0 && (1:Int)==1 && (HT.sIx items.size items.size hi - HT.sIx items.size 0 lo)==items.size)=true then _ else _) _ _ s
 rw [if_pos hyes]
 unfold Builtin.Tuple.tupleIsExact
 refine wpAny_bind (wpAny_bind (wpAny_typeOf ht.typeIs (wpAny_pure ?_)))
 refine wpAny_ite_split (fun _=>wpAny_bind (wpAny_rule (wpAny_pure ⟨_,rfl,wpAny_pure h⟩))) (fun hab=>absurd (by rfl) hab)
theorem aCT:SlR X (fun x lo hi H Q=>∃ a xs,x=.ref a/\SqT X.K H a xs/\∀ p H',aF H H'->SqT X.K H' p (jS xs lo hi)->Q (.ref p) H'):=by
 intro pins s σ H x v vl vu lo hi sl Q I rx hs pl pu h
 obtain ⟨a,xs,rfl,hx,q⟩:=h
 by_cases hw:HT.sIx xs.length 0 lo=0/\HT.sIx xs.length xs.length hi=xs.length
 ·cases rx
  obtain ⟨its,r,ht,hz⟩:=I.tuple hx
  have hlen:its.toArray.size=xs.length:=by rw [Qg]; exact r.length.symm
  refine ⟨"tuple",_,PyProof.Rows.slot_tuple_getitem.lookup,ht.typeIs,?_⟩
  refine lD ht hs pl pu (by rw [hlen]; exact hw) ⟨.ref a,H,I,rfl,q a H (aF.refl H) ?_⟩
  have e:jS xs lo hi=xs:=by
   unfold jS
   rw [hw.1,hw.2,Yq,Nat.sub_zero,Xk]
  rw [e]; exact hx
 ·exact aEf pins s σ H _ v vl vu lo hi sl Q I rx hs pl pu ⟨a,xs,rfl,hx,hw,fun p hp=>q p _ (aF.new hp) (SqT.of aC)⟩
theorem aCU (xs:List V) (k:Nat):jS xs none (some (k:Int))=xs.take k:=by
 unfold jS
 rw [HT.sIx_none,HT.sIx_nat,Yq,Nat.sub_zero]
 by_cases h:k<=xs.length
 ·rw [Nat.min_eq_left h]
 ·rw [Nat.min_eq_right (by omega),Jn (Qi _),Jn (by omega)]
theorem rZ (xs:List V) (k:Nat):jS xs (some (k:Int)) none=xs.drop k:=by
 unfold jS
 rw [HT.sIx_none,HT.sIx_nat]
 by_cases h:k<=xs.length
 ·rw [Nat.min_eq_left h,Jn (by rw [Jt]; exact Qi _)]
 ·rw [Nat.min_eq_right (by omega),Yi (Qi _),Yi (by omega),List.take_nil]
end
def zN (N frn:List Str) (fr:List Nat):Bool:=frn.length==fr.length && (frn.zip fr).all fun y=>N[y.2]?==some y.1
theorem bT {X:Cx} {scope:Scope} {own frn:List Str} {fr:List Nat} (sc:Scope) (N:List Str) (h1:X.env.scope=sc) (h2:X.N=N) (h:(mZ sc scope own frn && zN N frn fr)=true):CompOk X scope own fr frn:=by
 rw [Qv] at h
 obtain ⟨ha,hb⟩:=h
 unfold zN at hb
 simp only [Qv,beq_iff_eq,Ja] at hb
 refine ⟨by rw [h1]; exact ha,fun k x hk=>?_,hb.1.symm⟩
 have hlt:k < fr.length:=by rw [<- hb.1]; exact (Qc.mp hk).1
 refine ⟨fr[k],Qd hlt,?_⟩
 have hm:(x,fr[k])∈frn.zip fr:=by
  refine Qj (i:=k) ?_
  rw [Xp]
  exact ⟨hk,Qd hlt⟩
 rw [h2]
 exact hb.2 _ hm
section
variable {J:It} {own:Nat} {fr:List Nat} {g:TG} {tt:TT} {te:TE} {σ:St} {H:Hp} {Q:Hp->List V->Prop}
theorem mH (n:Nat) (hn:n<=sizeLine) (SH:St->Prop) (Pv:Nat->List V->Hp->Prop) (hσ:SH (blk own fr σ)) (h0:Pv 0 [] H) (hlen:∀ i ys H,Pv i ys H->ys.length<=i)
  (hstop:∀ ys H,Pv n ys H->J.stop n H) (hgo:∀ i ys H,i < n->Pv i ys H->J.go i H)
  (hs:∀ i ys σ x H H',i < n->SH σ->Pv i ys H->J.yld i H x H'->ys.length < sizeLine->g x σ H' fun σ2 H2=>tt σ2 H2 fun b H3=>if b=true then te σ2 H3 fun y H4=>ys.length < sizeLine/\SH σ2/\Pv (i+1) (ys++[y]) H4 else SH σ2/\Pv (i+1) ys H3)
  (hd:∀ ys H,Pv n ys H->Q H ys) :
  ∃ W:Nat->Nat->List V->St->Hp->Prop,(∃ m,W 0 m [] (blk own fr σ) H)/\∀ i m ys σ' H,W i m ys σ' H ->
   (J.stop i H/\Q H ys) ∨
   (J.go i H/\∃ N:List V->St->Hp->Prop,(∀ ys' σ2 H2,N ys' σ2 H2->∃ m',m' < m/\W (i+1) m' ys' σ2 H2) /\
    ∀ x H',J.yld i H x H'->g x σ' H' fun σ2 H2=>tt σ2 H2 fun b H3=>if b=true then te σ2 H3 fun y H4=>ys.length < sizeLine/\N (ys++[y]) σ2 H4 else N ys σ2 H3):=by
 refine ⟨fun i m ys σ' H=>m=n - i/\i<=n/\SH σ'/\Pv i ys H,⟨n,by simp,Jm _,hσ,h0⟩,?_⟩
 rintro i m ys σ' H ⟨rfl,hi,sh,p⟩
 by_cases hlt:i < n
 ·refine .inr ⟨hgo i ys H hlt p,fun ys' σ2 H2=>SH σ2/\Pv (i+1) ys' H2,fun ys' σ2 H2 ⟨e,q⟩=>⟨n - (i+1),by omega,rfl,hlt,e,q⟩,fun x H' y=>?_⟩
  exact hs i ys σ' x H H' hlt sh p y (by have:=hlen i ys H p; omega)
 ·have e:i=n:=by omega
  subst e
  exact .inl ⟨hstop ys H p,hd ys H p⟩
theorem vJ {K:PySem.W.Frag} {a:Addr} {xs:List V} (SH:St->Prop) (Pv:Nat->List V->Hp->Prop) (hn:xs.length<=sizeLine) (hσ:SH (blk own fr σ)) (h0:Pv 0 [] H) (hlen:∀ i ys H,Pv i ys H->ys.length<=i) (hl:∀ i ys H,Pv i ys H->SqT K H a xs)
  (hs:∀ i ys σ x H,xs[i]?=some x->SH σ->Pv i ys H->ys.length < sizeLine->g x σ H fun σ2 H2=>tt σ2 H2 fun b H3=>if b=true then te σ2 H3 fun y H4=>ys.length < sizeLine/\SH σ2/\Pv (i+1) (ys++[y]) H4 else SH σ2/\Pv (i+1) ys H3)
  (hd:∀ ys H,Pv xs.length ys H->Q H ys) :
  ∃ W:Nat->Nat->List V->St->Hp->Prop,(∃ m,W 0 m [] (blk own fr σ) H)/\∀ i m ys σ' H,W i m ys σ' H ->
   ((Itt K a).stop i H/\Q H ys) ∨
   ((Itt K a).go i H/\∃ N:List V->St->Hp->Prop,(∀ ys' σ2 H2,N ys' σ2 H2->∃ m',m' < m/\W (i+1) m' ys' σ2 H2) /\
    ∀ x H',(Itt K a).yld i H x H'->g x σ' H' fun σ2 H2=>tt σ2 H2 fun b H3=>if b=true then te σ2 H3 fun y H4=>ys.length < sizeLine/\N (ys++[y]) σ2 H4 else N ys σ2 H3):=by
 refine mH xs.length hn SH Pv hσ h0 hlen (fun ys H p=>⟨xs,hl _ _ _ p,Qi _⟩) (fun i ys H hi p=>⟨xs,xs[i],hl _ _ _ p,Qd hi⟩) (fun i ys σ x H H' hi sh p y hz=>?_) hd
 obtain ⟨e,y⟩:=y
 subst e
 exact hs i ys σ x _ (y xs (hl _ _ _ p)) sh p hz
theorem sE {K:PySem.W.Frag} {a:Addr} {xs:List V} (SH:St->Prop) (Pv:Nat->List V->Hp->Prop) (hn:xs.length<=sizeLine) (hσ:SH (blk own fr σ)) (h0:Pv 0 [] H) (hlen:∀ i ys H,Pv i ys H->ys.length<=i) (hl:∀ i ys H,Pv i ys H->SqL K H a xs)
  (hs:∀ i ys σ x H,xs[i]?=some x->SH σ->Pv i ys H->ys.length < sizeLine->g x σ H fun σ2 H2=>tt σ2 H2 fun b H3=>if b=true then te σ2 H3 fun y H4=>ys.length < sizeLine/\SH σ2/\Pv (i+1) (ys++[y]) H4 else SH σ2/\Pv (i+1) ys H3)
  (hd:∀ ys H,Pv xs.length ys H->Q H ys) :
  ∃ W:Nat->Nat->List V->St->Hp->Prop,(∃ m,W 0 m [] (blk own fr σ) H)/\∀ i m ys σ' H,W i m ys σ' H ->
   ((Itl K a).stop i H/\Q H ys) ∨
   ((Itl K a).go i H/\∃ N:List V->St->Hp->Prop,(∀ ys' σ2 H2,N ys' σ2 H2->∃ m',m' < m/\W (i+1) m' ys' σ2 H2) /\
    ∀ x H',(Itl K a).yld i H x H'->g x σ' H' fun σ2 H2=>tt σ2 H2 fun b H3=>if b=true then te σ2 H3 fun y H4=>ys.length < sizeLine/\N (ys++[y]) σ2 H4 else N ys σ2 H3):=by
 refine mH xs.length hn SH Pv hσ h0 hlen (fun ys H p=>⟨xs,hl _ _ _ p,Qi _⟩) (fun i ys H hi p=>⟨xs,xs[i],hl _ _ _ p,Qd hi⟩) (fun i ys σ x H H' hi sh p y hz=>?_) hd
 obtain ⟨e,y⟩:=y
 subst e
 exact hs i ys σ x _ (y xs (hl _ _ _ p)) sh p hz
theorem iW {lo:Int} {n:Nat} (SH:St->Prop) (Pv:Nat->List V->Hp->Prop) (hn:n<=sizeLine) (hσ:SH (blk own fr σ)) (h0:Pv 0 [] H) (hlen:∀ i ys H,Pv i ys H->ys.length<=i)
  (hs:∀ i ys σ H,i < n->SH σ->Pv i ys H->ys.length < sizeLine->g (.int (lo+i)) σ H fun σ2 H2=>tt σ2 H2 fun b H3=>if b=true then te σ2 H3 fun y H4=>ys.length < sizeLine/\SH σ2/\Pv (i+1) (ys++[y]) H4 else SH σ2/\Pv (i+1) ys H3)
  (hd:∀ ys H,Pv n ys H->Q H ys) :
  ∃ W:Nat->Nat->List V->St->Hp->Prop,(∃ m,W 0 m [] (blk own fr σ) H)/\∀ i m ys σ' H,W i m ys σ' H ->
   ((Itr lo n).stop i H/\Q H ys) ∨
   ((Itr lo n).go i H/\∃ N:List V->St->Hp->Prop,(∀ ys' σ2 H2,N ys' σ2 H2->∃ m',m' < m/\W (i+1) m' ys' σ2 H2) /\
    ∀ x H',(Itr lo n).yld i H x H'->g x σ' H' fun σ2 H2=>tt σ2 H2 fun b H3=>if b=true then te σ2 H3 fun y H4=>ys.length < sizeLine/\N (ys++[y]) σ2 H4 else N ys σ2 H3):=by
 refine mH n hn SH Pv hσ h0 hlen (fun ys H p=>Qi _) (fun i ys H hi p=>hi) (fun i ys σ x H H' hi sh p y hz=>?_) hd
 obtain ⟨e,y⟩:=y
 subst e y
 exact hs i ys σ _ hi sh p hz
end
section
variable {X:Cx}
def aFg (i j:Int):Prop:=0 < j/\j < 1267650600228229401496703205376
theorem aBD:OpR X (binaryOp .FloorDiv) (rI aFg fun i j=>.int (i / j)):=opI fun i j _ _ _ _ _ hc q=>by
 have h1:(0:Int) < j:=hc.1
 have h2:j < 1267650600228229401496703205376:=hc.2
 refine floordiv_int (by omega) (by rw [Int.fdiv_eq_ediv_of_nonneg i (by omega)]; exact q) (.inl (PyProof.noPylong_of_log2 ?_))
 have h3:j.natAbs.log2 < 100:=(Nat.log2_lt (by omega)).mpr (by omega)
 omega
theorem Inv.big0 {pins:List (Addr×Obj)} {σ:St} {H:Hp} {s:Shared} (I:Inv X pins σ H s):sysModules < s.heap.objs.size:=by
 have h:mainGlobals < s.heap.objs.size:=(I.mod.glob.keeps I.bk).lt
 exact Nat.lt_trans (by decide) h
theorem aCV {P:Program} {w:World} {H:Hp} (h:Heap) (hb:sysModules < h.objs.size):bL P w H (h.push { cls:=.type "dict",data:=.dict #[] }) h.objs.size (.dK []) :=
 ⟨Jm _,beq_eq_false_iff_ne.mpr (Ne.symm (Qt hb)),[],.nil,Heap.DictOf.new h⟩
def aBE:TE:=fun _ H Q=>∀ p,H p=none->Q (.ref p) (upd H p (.dK []))
theorem vK {pos:Pos}:PE X (.Dict [] [] pos) aBE:=fun pins s σ H Q I h =>
 wpAny_Dict_empty ⟨.ref s.heap.objs.size,_,I.laid (a:=s.heap.objs.size) (o:=.dK []) (t':=s.toks) (fun _ _ q=>Qa _ q) (Qi _) (aCV s.heap I.big0),rfl,h _ (I.hok.fresh (Qi _))⟩
theorem vL {α β:Type} {f g:α->Option β}:∀ {l:List α},(∀ x∈l,f x=g x)->l.filterMap f=l.filterMap g
 | [],_=>rfl
 | x::r,h=>by rw [Ju,Ju,h x (Qo ..),vL fun y hy=>h y (Qm _ hy)]
theorem aBF (xs:Array Value):((List.range xs.size).filterMap fun (k:Nat)=>xs[((xs.size:Int) - 1+(k:Int)*(-1)).toNat]?).toArray=xs.toList.reverse.toArray:=by
 have h:=HT.pick_gen xs.toList.reverse.toArray 0 xs.size
 have e:(List.range xs.size).filterMap (fun (k:Nat)=>xs[((xs.size:Int) - 1+(k:Int)*(-1)).toNat]?)=(List.range xs.size).filterMap (fun (m:Nat)=>xs.toList.reverse.toArray[(((0:Nat):Int)+(m:Int)*1).toNat]?):=by
  refine vL fun k hk=>?_
  have hk':=Xf.mp hk
  have h1:((xs.size:Int) - 1+(k:Int)*(-1)).toNat=xs.size - 1 - k:=by omega
  have h2:(((0:Nat):Int)+(k:Int)*1).toNat=k:=by omega
  rw [h1,h2]
  simp only [List.getElem?_toArray]
  rw [List.getElem?_reverse (by simpa using hk')]
  simp
 rw [e,h]
 congr 1
 rw [Yq,Jn (by simp)]
end
def Vw (S:List Addr) (H:Hp):Hp:=fun b=>if b∈S then none else H b
theorem Vw.out {S:List Addr} {H:Hp} {b:Addr} (n:b∉S):Vw S H b=H b:=by unfold Vw; rw [if_neg n]
theorem Vw.sub {S:List Addr} {H:Hp}:aF (Vw S H) H:=fun b o h=>by
 by_cases z:b∈S
 ·unfold Vw at h; rw [if_pos z] at h; cases h
 ·rw [Vw.out z] at h; exact h
theorem Vw.keep {S:List Addr} {H H':Hp} (e:∀ b o,b∉S->H b=some o->H' b=some o):aF (Vw S H) (Vw S H'):=fun b o h=>by
 by_cases z:b∈S
 ·unfold Vw at h; rw [if_pos z] at h; cases h
 ·rw [Vw.out z] at h ⊢; exact e b o z h
theorem Vw.same {S:List Addr} {H H':Hp} (e:aF H H'):aF (Vw S H) (Vw S H'):=Vw.keep fun b o _ h=>e b o h
def Fx (S:List Addr) (H:Hp):Prop:=∀ b∈S,∃ xs,H b=some (.lst xs)
theorem Fx.same {S:List Addr} {H H':Hp} (f:Fx S H) (e:aF H H'):Fx S H':=fun b hb=>let ⟨xs,h⟩:=f b hb; ⟨xs,e b _ h⟩
theorem Fx.new {S:List Addr} {H:Hp} {p:Addr} (f:Fx S H) (h:H p=none):p∉S:=fun z=>by
 obtain ⟨xs,q⟩:=f p z
 rw [q] at h; cases h
theorem Fx.nil {H:Hp}:Fx [] H:=fun _ h=>(Qn h).elim
section
variable {K:PySem.W.Frag} {S:List Addr} {H H' H0:Hp}
theorem Fx.seqT {a:Addr} {xs:List V} (f:Fx S H) (h:SqT K H a xs):SqT K (Vw S H) a xs:=by
 rcases h with (h | ⟨o,h⟩) | h
 ·exact .inl (.inl (by rw [Vw.out fun z=>by obtain ⟨ys,q⟩:=f a z; rw [q] at h; cases h]; exact h))
 ·exact .inl (.inr ⟨o,by rw [Vw.out fun z=>by obtain ⟨ys,q⟩:=f a z; rw [q] at h; cases h]; exact h⟩)
 ·exact .inr h
theorem Vw.at {p:Addr} {o:HO} (f:Fx S H) (h:H p=none):Vw S (upd H p o) p=some o:=by rw [Vw.out (f.new h)]; exact aC
def Dn (K:PySem.W.Frag) (S:List Addr) (H:Hp) (x:V):Prop:=∃ d,Den K (Vw S H) d x
def DT (K:PySem.W.Frag) (S:List Addr) (n:Nat) (H:Hp) (x:V):Prop:=∃ a xs,x=.ref a/\SqT K (Vw S H) a xs/\xs.length<=n/\∀ y∈xs,Dn K S H y
def II (_:Hp) (x:V):Prop:=∃ i,x=.int i
class Mo (R:Hp->V->Prop):Prop where
 mo:∀ {H H':Hp} {v:V},aF H H'->R H v->R H' v
theorem Dn.keep {x:V} (h:Dn K S H x) (e:aF (Vw S H) (Vw S H')):Dn K S H' x:=let ⟨d,h⟩:=h; ⟨d,e.den _ _ h⟩
theorem Dn.same {x:V} (h:Dn K S H x) (e:aF H H'):Dn K S H' x:=h.keep (Vw.same e)
theorem DT.keep {n:Nat} {x:V} (h:DT K S n H x) (e:aF (Vw S H) (Vw S H')):DT K S n H' x:=let ⟨a,xs,h1,h2,h3,h4⟩:=h; ⟨a,xs,h1,e.seqT h2,h3,fun y hy=>(h4 y hy).keep e⟩
theorem DT.same {n:Nat} {x:V} (h:DT K S n H x) (e:aF H H'):DT K S n H' x:=h.keep (Vw.same e)
instance:Mo (Dn K S):=⟨fun e h=>Dn.same h e⟩
instance {n:Nat}:Mo (DT K S n):=⟨fun e h=>DT.same h e⟩
instance:Mo II:=⟨fun _ h=>h⟩
theorem xW (i:Int):Dn K S H (.int i):=⟨.int i,bQ.mpr rfl⟩
theorem aEo:Dn K S H .non:=⟨.none,gR.mpr rfl⟩
theorem aEp (x:Str):Dn K S H (.str x):=⟨.str x,kW.mpr rfl⟩
theorem II.dn {x:V} (h:II H x):Dn K S H x:=let ⟨i,h⟩:=h; h ▸ xW i
theorem tN:∀ {xs:List V},(∀ x∈xs,Dn K S H x)->∃ ds,aU K (Vw S H) ds xs
 | [],_=>⟨[],aV.mpr rfl⟩
 | x::r,h=>by
  obtain ⟨d,hd⟩:=h x (Qo ..)
  obtain ⟨ds,hds⟩:=tN (xs:=r) fun y hy=>h y (Qm _ hy)
  exact ⟨d::ds,aP.mpr ⟨x,r,rfl,hd,hds⟩⟩
theorem DT.dn {n:Nat} {x:V} (h:DT K S n H x):Dn K S H x:=by
 obtain ⟨a,xs,rfl,h2,_,h4⟩:=h
 obtain ⟨ds,hds⟩:=tN h4
 exact ⟨.tuple ds,bE.mpr ⟨a,xs,rfl,h2,hds⟩⟩
theorem aEq {a:Addr} {xs:List V} (h:SqL K (Vw S H) a xs) (k:∀ x∈xs,Dn K S H x):Dn K S H (.ref a):=by
 obtain ⟨ds,hds⟩:=tN k
 exact ⟨.list ds,gS.mpr ⟨a,xs,rfl,h,hds⟩⟩
theorem aCW {l:List Int}:∀ x∈l.map V.int,Dn K S H x:=fun x hx=>by
 obtain ⟨i,_,rfl⟩:=Jl.mp hx
 exact xW i
theorem DT.ints {a:Addr} {l:List Int} {n:Nat} (f:Fx S H) (h:SqT K H a (l.map V.int)) (hn:l.length<=n):DT K S n H (.ref a):=⟨a,_,rfl,f.seqT h,by rw [Qb]; exact hn,aCW⟩
def Al (H0:Hp) (S:List Addr) (te:TE) (σ:St) (R:Hp->V->Prop):Prop:=∀ H,aF H0 H->Fx S H->∀ Q:VK,(∀ v H',aF H H'->R H' v->Q v H')->te σ H Q
def AlA (H0:Hp) (K:PySem.W.Frag) (S:List Addr) (n:Nat) (t:TA) (σ:St):Prop:=∀ H,aF H0 H->Fx S H->∀ Q:List V->Hp->Prop,(∀ vs H',aF H H'->vs.length=n->(∀ v∈vs,Dn K S H' v)->Q vs H')->t σ H Q
variable {σ:St} {R R':Hp->V->Prop} {te ta tb ts:TE} {t tr:TA} {tl th:TO}
theorem xX {i:Nat} {v:V} [m:Mo R] (h:σ[i]?=some (some v)) (r:R H0 v):Al H0 S (jK i) σ R:=fun H s _ Q k=>⟨v,h,k v H (aF.refl H) (m.mo s r)⟩
theorem aBG {v:V} [m:Mo R] (r:R H0 v):Al H0 S (tC v) σ R:=fun H s _ Q k=>k v H (aF.refl H) (m.mo s r)
theorem Al.mono (h:Al H0 S te σ R) (m:∀ H v,R H v->R' H v):Al H0 S te σ R':=fun H s f Q k=>h H s f Q fun v H' s' r=>k v H' s' (m H' v r)
theorem iX {i:Int}:Al H0 S (tC (.int i)) σ II:=aBG ⟨i,rfl⟩
theorem zO {i:Int}:Al H0 S (tC (.int i)) σ (Dn K S):=aBG (xW i)
theorem tO:Al H0 S (tC .non) σ (Dn K S):=aBG aEo
theorem aCX {x:Str}:Al H0 S (tC (.str x)) σ (Dn K S):=aBG (aEp x)
theorem Al.i (h:Al H0 S te σ II):Al H0 S te σ (Dn K S):=h.mono fun _ _ r=>r.dn
theorem Al.d {n:Nat} (h:Al H0 S te σ (DT K S n)):Al H0 S te σ (Dn K S):=h.mono fun _ _ r=>r.dn
theorem tP:AlA H0 K S 0 qZ σ:=fun H _ _ Q k=>k [] H (aF.refl H) rfl (fun _ h=>(Qn h).elim)
theorem pO {n:Nat} (h:Al H0 S te σ (Dn K S)) (r:AlA H0 K S n tr σ):AlA H0 K S (n+1) (lZ te tr) σ:=fun H s f Q k=>h H s f _ fun v H1 s1 d1=>r H1 (s.trans s1) (f.same s1) _ fun vs H2 s2 l d2 =>
 k (v::vs) H2 (s1.trans s2) (by rw [Jk,l]) fun x hx=>by
  rcases Qk.mp hx with rfl | hx
  ·exact d1.same s2
  ·exact d2 x hx
theorem aBH {n:Nat} (h:AlA H0 K S n t σ) (hn:n<=1000:=by decide):Al H0 S (aCL t) σ (DT K S n):=fun H s f Q k=>h H s f _ fun vs H1 s1 l d=>⟨by rw [l]; exact Xu (kU hn),fun p hp =>
 k (.ref p) _ (s1.trans (aF.new hp)) ⟨p,vs,rfl,SqT.of (Vw.at (f.same s1) hp),by rw [l]; exact Qi _,fun y hy=>(d y hy).same (aF.new hp)⟩⟩
theorem aEr {n:Nat} (h:AlA H0 K S n t σ) (hn:n<=1000:=by decide):Al H0 S (aCM t) σ (Dn K S):=fun H s f Q k=>h H s f _ fun vs H1 s1 l d=>⟨by rw [l]; exact Xu (kU hn),fun p hp =>
 k (.ref p) _ (s1.trans (aF.new hp)) (aEq (SqL.of (Vw.at (f.same s1) hp)) fun y hy=>(d y hy).same (aF.new hp))⟩
def aFh (K:PySem.W.Frag):R2:=fun x y H Q=>∃ a b xs ys,x=.ref a/\y=.ref b/\SqT K H a xs/\SqT K H b ys/\xs.length+ys.length<=sizeLine/\∀ p H',aF H H'->SqT K H' p (xs++ys)->Q (.ref p) H'
theorem kB {X:Cx} (hK:X.K=K):OpR X (binaryOp .Add) (aFh K):=by subst hK; exact aCS
def aFT (K:PySem.W.Frag):V->Option Int->Option Int->Hp->VK->Prop:=fun x lo hi H Q=>∃ a xs,x=.ref a/\SqT K H a xs/\∀ p H',aF H H'->SqT K H' p (jS xs lo hi)->Q (.ref p) H'
theorem kC {X:Cx} (hK:X.K=K):SlR X (aFT K):=by subst hK; exact aCT
def aCY (K:PySem.W.Frag):List V->Hp->VK->Prop:=fun xs H Q=>∃ p ys,xs = [.ref p]/\(SqL K H p ys∨SqT K H p ys)/\∀ l,H l=none->Q (.ref l) (upd H l (.lst ys))
theorem rE {X:Cx} (hK:X.K=K):dP X (.type "list") (aCY K):=by subst hK; exact tK
theorem vM {xs:List V} {lo hi:Option Int} {x:V} (h:x∈jS xs lo hi):x∈xs:=List.mem_of_mem_drop (Yo h)
theorem vN {xs:List V} {lo hi:Option Int}:(jS xs lo hi).length<=xs.length:=by
 unfold jS
 rw [Jd,Jt]
 omega
theorem aFi {g:Int->Int} (h:Al H0 S te σ II):Al H0 S (tUn (rU fun i=>.int (g i)) te) σ II:=fun H s f Q k=>h H s f _ fun v H1 s1 ⟨i,e⟩=>⟨i,e,k _ H1 s1 ⟨_,rfl⟩⟩
theorem aEs {g:Int->Int->Int} (ha:Al H0 S ta σ II) (hb:Al H0 S tb σ II):Al H0 S (tOp (rI0 fun i j=>.int (g i j)) ta tb) σ II:=fun H s f Q k=>ha H s f _ fun v H1 s1 ⟨i,e⟩=>hb H1 (s.trans s1) (f.same s1) _ fun u H2 s2 ⟨j,e'⟩=>⟨i,j,e,e',k _ H2 (s1.trans s2) ⟨_,rfl⟩⟩
theorem aBI {xs:List V} {a:Addr} {i:Int} {x:V} [m:Mo R] (ha:Al H0 S ta σ fun H v=>v=.ref a/\SqT K H a xs) (hb:Al H0 S tb σ fun _ v=>v=.int i) (hx:atI xs i=some x) (r:R H0 x):Al H0 S (tOp (aBl K) ta tb) σ R:=fun H s f Q k=>ha H s f _ fun v H1 s1 ⟨e,h⟩=>hb H1 (s.trans s1) (f.same s1) _ fun u H2 s2 e' =>
 ⟨a,xs,i,x,e,e',s2.seqT h,hx,k _ H2 (s1.trans s2) (m.mo (s.trans (s1.trans s2)) r)⟩
instance {a:Addr} {xs:List V}:Mo (fun H v=>v=.ref a/\SqT K H a xs):=⟨fun e h=>⟨h.1,e.seqT h.2⟩⟩
instance {x:V}:Mo (fun _ v=>v=x):=⟨fun _ h=>h⟩
end
open PySem.AutoSeq1 (wpAny_loadPart')
theorem nf {b:Bool} (h:b=false):decide (b=true)=false:=by rw [h]; rfl
theorem nt {b:Bool} (h:b=true):decide (b=true)=true:=by rw [h]; rfl
theorem pP (l:Addr) (items:Array Value) (n:Nat) (dd:Option Addr) (sl:Array (Option Value)) (x:Int) (u:Tok) (h1:1 < x) (h2:x<=1000) (hne:items.isEmpty=false) (hz:items.size<=1000) :
  Meets (Builtin.«tuple.__mul__» ⟨[.ref l,.int x u],[]⟩) (fun _ R s=>s.heap.get? l=some { cls:=.type "tuple",dict:=dd,data:=.seq items n,slots:=sl }/\R (.ok (.ret (Value.ref s.heap.objs.size))) { s with heap:=s.heap.push { cls:=Value.type "tuple",data:=Data.seq (List.foldl (fun x1 x2=>x1++x2) #[] (List.replicate x.toNat items)) },toks:=s.toks }) :=
 .of_wp fun prog w A R s h=>by
  obtain ⟨hp,g,d,tk,os⟩:=s
  obtain ⟨hl,h⟩:=h
  have f1:=AutoSeq1.idx_int
  have f2:=AutoSeq1.sub_tuple_tuple
  wp_walk using wpAny_loadPart' hl
  refine wpAny_ite_false (nf (show (decide (x < -2^63) || decide (x≥2^63))=false from by rw [decide_eq_false (show ¬ x < -2^63 by omega),decide_eq_false (show ¬ x≥2^63 by omega)]; rfl)) ?_
  wp_walk using wpAny_loadPart' hl
  refine wpAny_ite_false (nf (show (items.isEmpty || x==1)=false from by rw [hne,beq_eq_false_iff_ne.mpr (show x≠1 by omega)]; rfl)) ?_
  wp_walk using wpAny_loadPart' hl
  refine wpAny_ite_false (nf (show (decide (x<=0) || items.isEmpty)=false from by rw [hne,decide_eq_false (show ¬ x<=0 by omega)]; rfl)) ?_
  wp_walk using wpAny_loadPart' hl
  have hm:(items.size:Int)*x<=1000*1000:=Int.mul_le_mul (by omega) h2 (by omega) (by omega)
  refine wpAny_ite_false (decide_eq_false (show ¬ (items.size:Int)*x > (2^63 - 1) / 8 by omega)) ?_
  wp_walk using wpAny_loadPart' hl
  refine wpAny_ite_false (nf (show decide ((items.size:Int)*x > (sizeLine:Int))=false from decide_eq_false (by rw [sizeLine_eq]; omega))) ?_
  have hsz:¬ (List.foldl (fun x1 x2=>x1++x2) #[] (List.replicate x.toNat items)).size > sizeLine:=by
   have e:=kT items.toList x.toNat []
   rw [Xy] at e
   have e2:List.foldl (fun x1 x2=>x1++x2) #[] (List.replicate x.toNat items)=(List.replicate x.toNat items.toList).flatten.toArray:=e
   rw [e2,Qg,oI,Array.length_toList,sizeLine_eq]
   have:x.toNat*items.size<=1000*1000:=Yr (by omega) hz
   omega
  wp_walk using wpAny_loadPart' hl
  exact ⟨_,rfl,h⟩
theorem pQ (l:Addr) (items:Array Value) (n:Nat) (dd:Option Addr) (sl:Array (Option Value)) (x:Int) (u:Tok) (h1:1 < x) (h2:x<=1000) (hne:items.isEmpty=true) :
  Meets (Builtin.«tuple.__mul__» ⟨[.ref l,.int x u],[]⟩) (fun _ R s=>s.heap.get? l=some { cls:=.type "tuple",dict:=dd,data:=.seq items n,slots:=sl }/\R (.ok (.ret (Value.ref l))) s) :=
 .of_wp fun prog w A R s h=>by
  obtain ⟨hp,g,d,tk,os⟩:=s
  obtain ⟨hl,h⟩:=h
  have f1:=AutoSeq1.idx_int
  have f2:=AutoSeq1.sub_tuple_tuple
  wp_walk using wpAny_loadPart' hl
  refine wpAny_ite_false (nf (show (decide (x < -2^63) || decide (x≥2^63))=false from by rw [decide_eq_false (show ¬ x < -2^63 by omega),decide_eq_false (show ¬ x≥2^63 by omega)]; rfl)) ?_
  wp_walk using wpAny_loadPart' hl
  exact ⟨_,rfl,h⟩
theorem iL:fillsNumberSlot (.type "tuple") "mul" = pure false :=
 PySem.fillsNumberSlot_seq (id := "tuple.__mul__") (r:=some (.builtin "tuple.__rmul__")) PySem.F.slot_tuple_mul.lookup (by decide +kernel) PySem.F.slot_tuple_rmul.lookup (by decide +kernel)
theorem mI:seqRepeat? (.type "tuple")=pure (some (.builtin "tuple.__mul__")):=by
 unfold seqRepeat?
 rw [PySem.seqSlot_of (T := "tuple") (name := "__mul__") (id := "tuple.__mul__") PySem.F.slot_tuple_mul.lookup (by decide +kernel),PySem.seqSlot_of (T := "tuple") (name := "__rmul__") (id := "tuple.__rmul__") PySem.F.slot_tuple_rmul.lookup (by decide +kernel)]
 rfl
theorem kD (a:Int) (t:Tok) (l:Addr) (items:Array Value) (n:Nat) (dd:Option Addr) (sl:Array (Option Value)) :
  Meets (Builtin.«int.__rmul__» ⟨[.int a t,.ref l],[]⟩) (fun _ R s=>s.heap.get? l=some { cls:=.type "tuple",dict:=dd,data:=.seq items n,slots:=sl }/\R (.ok (.ret Value.notImplemented)) s) :=
 .of_wp fun prog w A R s h=>by
  obtain ⟨hp,g,d,tk,os⟩:=s
  obtain ⟨hl,h⟩:=h
  wp_walk using wpAny_loadPart' hl
  exact ⟨_,rfl,h⟩
def aFj (K:PySem.W.Frag):R2:=fun x y H Q=>∃ a k xs,x=.ref a/\y=.int k/\SqT K H a xs/\1 < k/\k<=1000/\xs.length<=1000/\∀ p H',aF H H'->SqT K H' p (List.replicate k.toNat xs).flatten->Q (.ref p) H'
theorem zP {X:Cx} {K:PySem.W.Frag} (hK:X.K=K):OpR X (binaryOp .Mult) (aFj K):=by
 subst hK
 intro pins s σ H x y v u Q I rx ry h
 obtain ⟨a,k,xs,rfl,rfl,ha,h1,h2,hz,q⟩:=h
 cases rx
 obtain ⟨t,rfl⟩:=ry
 obtain ⟨its,r,⟨⟨cls,dd,data,sl⟩,ho,hc,n,hd⟩,hzz⟩:=I.tuple ha
 simp only at hc hd
 subst hc hd
 have hl:=r.length
 refine wpAny_binaryOp_repeat_ref (T := "tuple") (U := "int") (by decide) ⟨_,ho,rfl⟩ (fun s'=>typeIs_int s' k t) iL PySem.F.fills_int_mul PySem.F.slot_int_rmul mI PySem.F.slot_int_index.lookup
  (call_meets PySem.F.slot_int_rmul (typeIs_int s k t) PySem.F.entry_int_rmul (PySem.F.args_int_rmul_2 _ _) (kD k t a its.toArray n dd sl) ⟨ho,rfl,⟨_,ho,rfl⟩,?_⟩)
 by_cases hx:xs = []
 ·subst hx
  cases r
  refine call_meets PySem.F.slot_tuple_mul ⟨_,ho,rfl⟩ PySem.F.entry_tuple_mul (PySem.F.args_tuple_mul_2 _ _) (pQ a _ n dd sl k t h1 h2 rfl) ⟨ho,?_⟩
  exact ⟨.ref a,H,I,rfl,q a H (aF.refl H) (by rw [List.flatten_replicate_nil]; exact ha)⟩
 ·have hne:its.toArray.isEmpty=false:=by
   cases its with
   | nil=>cases r; exact absurd rfl hx
   | cons _ _=>rfl
  refine call_meets PySem.F.slot_tuple_mul ⟨_,ho,rfl⟩ PySem.F.entry_tuple_mul (PySem.F.args_tuple_mul_2 _ _) (pP a its.toArray n dd sl k t h1 h2 hne (by rw [Qg]; omega)) ⟨ho,?_⟩
  have hnew:List.foldl (fun x1 x2=>x1++x2) #[] (List.replicate k.toNat its.toArray)=(List.replicate k.toNat its).flatten.toArray:=by
   have:=kT its k.toNat []
   rw [Xy] at this
   exact this
  rw [hnew]
  have hlen:(List.replicate k.toNat xs).flatten.length<=sizeLine:=by
   rw [oI,sizeLine_eq]
   have:k.toNat*xs.length<=1000*1000:=Yr (by omega) hz
   omega
  refine ⟨.ref _,_,I.laid (t':=s.toks) (o:=.tup (List.replicate k.toNat xs).flatten) (fun b ob q=>Qa _ q) (Qi _) ?_,rfl,q _ _ (aF.new (I.hok.fresh (Qi _))) (SqT.of aC)⟩
  exact ⟨hlen,(List.replicate k.toNat its).flatten,0,r.rep k.toNat,Qe _ rfl⟩
section
variable {X:Cx} {pins:List (Addr×Obj)} {σ:St} {H:Hp} {s:Shared}
end
section
variable {K:PySem.W.Frag} {S:List Addr} {H H' H0:Hp} {E E':Hp->V->Prop}
def DTe (K:PySem.W.Frag) (S:List Addr) (E:Hp->V->Prop) (n:Nat) (H:Hp) (x:V):Prop:=∃ a xs,x=.ref a/\SqT K (Vw S H) a xs/\xs.length<=n/\∀ y∈xs,E H y
def LTe (S:List Addr) (E:Hp->V->Prop) (n:Nat) (H:Hp) (x:V):Prop:=∃ a xs,x=.ref a/\Vw S H a=some (.lst xs)/\xs.length<=n/\∀ y∈xs,E H y
instance {n:Nat} [m:Mo E]:Mo (DTe K S E n):=⟨fun e ⟨a,xs,h1,h2,h3,h4⟩=>⟨a,xs,h1,(Vw.same e).seqT h2,h3,fun y hy=>m.mo e (h4 y hy)⟩⟩
instance {n:Nat} [m:Mo E]:Mo (LTe S E n):=⟨fun e ⟨a,xs,h1,h2,h3,h4⟩=>⟨a,xs,h1,Vw.same e _ _ h2,h3,fun y hy=>m.mo e (h4 y hy)⟩⟩
def AlE (H0:Hp) (S:List Addr) (E:Hp->V->Prop) (n:Nat) (t:TA) (σ:St):Prop:=∀ H,aF H0 H->Fx S H->∀ Q:List V->Hp->Prop,(∀ vs H',aF H H'->vs.length=n->(∀ v∈vs,E H' v)->Q vs H')->t σ H Q
variable {σ:St} {te ta tb ts:TE} {t tr:TA} {tl th:TO}
theorem fG:AlE H0 S E 0 qZ σ:=fun H _ _ Q k=>k [] H (aF.refl H) rfl (fun _ h=>(Qn h).elim)
theorem bF {n:Nat} [m:Mo E] (h:Al H0 S te σ E) (r:AlE H0 S E n tr σ):AlE H0 S E (n+1) (lZ te tr) σ:=fun H s f Q k=>h H s f _ fun v H1 s1 d1=>r H1 (s.trans s1) (f.same s1) _ fun vs H2 s2 l d2 =>
 k (v::vs) H2 (s1.trans s2) (by rw [Jk,l]) fun x hx=>by
  rcases Qk.mp hx with rfl | hx
  ·exact m.mo s2 d1
  ·exact d2 x hx
theorem gJ {n:Nat} [m:Mo E] (h:AlE H0 S E n t σ) (hn:n<=1000:=by decide):Al H0 S (aCL t) σ (DTe K S E n):=fun H s f Q k=>h H s f _ fun vs H1 s1 l d=>⟨by rw [l]; exact Xu (kU hn),fun p hp =>
 k (.ref p) _ (s1.trans (aF.new hp)) ⟨p,vs,rfl,SqT.of (Vw.at (f.same s1) hp),by rw [l]; exact Qi _,fun y hy=>m.mo (aF.new hp) (d y hy)⟩⟩
theorem Al.weak {R R':Hp->V->Prop} (h:Al H0 S te σ R) (m:∀ H v,R H v->R' H v):Al H0 S te σ R':=fun H s f Q k=>h H s f Q fun v H' s' r=>k v H' s' (m H' v r)
end
section
variable {env:Env} {rest es:List Expr} {k:Nat} {pos:Pos} {a b c:Expr}
theorem aJ:starEach (.Tuple es k pos::rest) env=(false,eval (.Tuple es k pos) env)::starEach rest env:=rfl
theorem lO:starEach (.List es pos::rest) env=(false,eval (.List es pos) env)::starEach rest env:=rfl
theorem iY {ks:List (Option Expr)}:starEach (.Dict ks es pos::rest) env=(false,eval (.Dict ks es pos) env)::starEach rest env:=rfl
theorem lP {op:Operator}:starEach (.BinOp a op b pos::rest) env=(false,eval (.BinOp a op b pos) env)::starEach rest env:=rfl
theorem sF {op:UnaryOp}:starEach (.UnaryOp op a pos::rest) env=(false,eval (.UnaryOp op a pos) env)::starEach rest env:=rfl
theorem aD {v:Const}:starEach (.Constant v k pos::rest) env=(false,eval (.Constant v k pos) env)::starEach rest env:=rfl
theorem zQ {x:Str}:starEach (.Name x pos::rest) env=(false,eval (.Name x pos) env)::starEach rest env:=rfl
theorem aBJ:starEach (.Subscript a b pos::rest) env=(false,eval (.Subscript a b pos) env)::starEach rest env:=rfl
theorem tQ {kw:List Keyword}:starEach (.Call a es kw pos::rest) env=(false,eval (.Call a es kw pos) env)::starEach rest env:=rfl
end
def pR (sc scope:Scope) (z0:Str) (own:List Str) (frn:List Str):Bool :=
 scope.kind==.function && scope.names.all (fun y=>y.2 !=.cell || y.1==z0) && scope.names.all (fun y=>y.2 !=.local || scope.names.lookup y.1==some .local) &&
 scope.names.all (fun y=>y.2 !=.free || sc.names.lookup y.1==some .cell || sc.names.lookup y.1==some .free) && decide (own++frn).Nodup &&
 frn.all (fun x=>scope.names.lookup x==some .free) && scope.names.lookup z0==some .cell && scope.names.all (fun y=>y.2 !=.free || y.1 !=z0)
structure CompOk1 (X:Cx) (scope:Scope) (z0:Str) (own:List Str) (fr:List Nat) (frn:List Str):Prop where
 ck:pR X.env.scope scope z0 own frn=true
 ix:∀ (k:Nat) (x:Str),frn[k]?=some x->∃ j:Nat,fr[k]?=some j/\X.N[j]?=some x
 len:fr.length=frn.length
 cf:∀ (n:Nat) (cl:List (Str×Addr)),cellsFrom n scope.names cl=(z0,n)::cl
 pc:∀ h:Heap,pushCells h scope.names=h.push { cls:=.type "cell",data:=.cell none }
section
variable {X:Cx} {scope:Scope} {z0:Str} {own frn:List Str} {fr:List Nat}
theorem CompOk1.parts (S:CompOk1 X scope z0 own fr frn):scope.kind=.function/\(∀ y∈scope.names,y.2=.cell->y.1=z0)/\(∀ y∈scope.names,y.2=.local->scope.names.lookup y.1=some .local) /\
  (∀ y∈scope.names,y.2=.free->X.env.scope.names.lookup y.1=some .cell∨X.env.scope.names.lookup y.1=some .free)/\(own++frn).Nodup/\(∀ x∈frn,scope.names.lookup x=some .free)/\scope.names.lookup z0=some .cell/\∀ y∈scope.names,y.2=.free->y.1≠z0:=by
 have h:=S.ck
 unfold pR at h
 simp only [Qv,Ja,decide_eq_true_eq,Yn,bne_iff_ne,ne_eq,beq_iff_eq] at h
 obtain ⟨⟨⟨⟨⟨⟨⟨h1,h2⟩,h3⟩,h4⟩,h5⟩,h7⟩,h8⟩,h9⟩:=h
 refine ⟨h1,fun y hy e=>?_,fun y hy e=>?_,fun y hy e=>?_,h5,h7,h8,fun y hy e=>?_⟩
 ·rcases h2 y hy with z | z
  ·exact absurd e z
  ·exact z
 ·rcases h3 y hy with z | z
  ·exact absurd e z
  ·exact z
 ·rcases h4 y hy with (z | z) | z
  ·exact absurd e z
  ·exact .inl z
  ·exact .inr z
 ·rcases h9 y hy with z | z
  ·exact absurd e z
  ·exact z
end
section
variable {X:Cx} {scope:Scope} {z0:Str} {own frn:List Str} {fr:List Nat} {elt tg iter:Expr} {ifs:List Expr} {pos:Pos} {wi:TI} {g:TG} {tt:TT} {te:TE}
theorem CompOk1.clo {pins:List (Addr×Obj)} {σ:St} {H:Hp} {s:Shared} (S:CompOk1 X scope z0 own fr frn) (I:Inv X pins σ H s):closureFor scope X.env=pure (eS X.env scope.names []):=by
 obtain ⟨p1,p2,p3,p4,p5,p7,p8,p9⟩:=S.parts
 exact xR fun y hy e=>I.ok.has y.1 (p4 y hy e)
end
section
variable {X:Cx}
end
theorem aFk:bootBuiltins "min" = some (.builtin "min"):=by decide +kernel
theorem aCZ {K:PySem.W.Frag} {k1 k2:Sk} {a b:Addr} {xs ys:List V} {g:TG} {tb:TS} {D:Ends} {σ:St} {H:Hp} (Pv:Nat->St->Hp->Prop) (heq:xs.length=ys.length) (h0:Pv 0 σ H) (hl:∀ i σ H,i<=xs.length->Pv i σ H->SqK k1 K H a xs/\SqK k2 K H b ys)
  (hs:∀ i x y p σ H,xs[i]?=some x->ys[i]?=some y->Pv i σ H->H p=none->g (.ref p) σ (upd H p (.tup [x,y])) fun σ2 H2=>tb { D with nx:=Pv (i+1),ct:=Pv (i+1),bk:=D.nx } σ2 H2) (hd:∀ σ H,Pv xs.length σ H->D.nx σ H) :
  ∃ W:Nat->Nat->St->Hp->Prop,(∃ m,W 0 m σ H)/\∀ i m σ H,W i m σ H ->
   ((Itz K k1 k2 a b).stop i H/\D.nx σ H)∨((Itz K k1 k2 a b).go i H/\∃ N:St->Hp->Prop,(∀ σ' H',N σ' H'->∃ m',m' < m/\W (i+1) m' σ' H')/\∀ x H',(Itz K k1 k2 a b).yld i H x H'->g x σ H' fun σ2 H2=>tb { D with nx:=N,ct:=N,bk:=D.nx } σ2 H2):=by
 refine ⟨fun i m σ H=>m=xs.length - i/\i<=xs.length/\Pv i σ H,⟨xs.length,by simp,Jm _,h0⟩,?_⟩
 rintro i m σ H ⟨rfl,hi,p⟩
 obtain ⟨q1,q2⟩:=hl i σ H hi p
 by_cases hlt:i < xs.length
 ·refine .inr ⟨⟨xs,ys,xs[i],ys[i]'(by omega),q1,q2,Qd hlt,Qd (by omega)⟩,Pv (i+1),fun σ' H' p'=>⟨xs.length - (i+1),by omega,rfl,hlt,p'⟩,fun x H' y=>?_⟩
  obtain ⟨z,hz,rfl,hy⟩:=y
  obtain ⟨x,y,h1,h2,rfl⟩:=hy xs ys q1 q2
  exact hs i x y z σ _ h1 h2 p hz
 ·have e:i=xs.length:=by omega
  subst e
  exact .inl ⟨⟨xs,ys,q1,q2,by rw [<- heq,Nat.min_self]⟩,hd σ H p⟩
theorem bL.isThere {P:Program} {w:World} {H:Hp} {h:Heap} {a:Addr} {o:HO} (x:bL P w H h a o):∃ ob,h.get? a=some ob:=by
 cases o with
 | lst xs=>obtain ⟨_,_,_,_,e⟩:=x; exact ⟨_,e⟩
 | tup xs=>obtain ⟨_,_,_,_,e⟩:=x; exact ⟨_,e⟩
 | dK kvs=>obtain ⟨_,_,_,_,o,_,_,e,_⟩:=x; exact ⟨_,e⟩
 | dT kvs=>obtain ⟨_,_,_,_,o,_,_,e,_⟩:=x; exact ⟨_,e⟩
 | set S n=>obtain ⟨o,_,_,_,e,_⟩:=x; exact ⟨_,e⟩
 | ins C dx fs=>obtain ⟨_,_,_,e,_⟩:=x; exact ⟨_,e⟩
 | own y=>obtain ⟨_,e⟩:=x; exact ⟨_,e⟩
 | xd fs=>obtain ⟨_,⟨_,_,_,e,_⟩,_⟩:=x; exact ⟨_,e⟩
 | rng lo hi=>obtain ⟨_,_,_,e⟩:=x; exact ⟨_,e⟩
 | frz ob u=>obtain ⟨e,_⟩:=x; exact ⟨_,e⟩
 | tbl ps=>exact ⟨_,(show h.get? a=some _ from x)⟩
 | tab q=>obtain ⟨_,e,_⟩:=x; exact ⟨_,e⟩
 | met f y=>exact ⟨_,(show h.get? a=some _ from x)⟩
 | ext φ=>obtain ⟨_,⟨_,e⟩,_⟩:=x; exact ⟨_,e⟩
def zR (h:Heap) (a:Addr) (cls:Value) (T:Addr):Prop :=
 ∃ oe vs oT ts,h.get? a=some oe/\oe.cls=cls/\oe.data=.fields vs/\vs[1]?=some (.ref T)/\T≠a/\h.get? T=some oT/\oT.data=.fields ts/\ts[3]?=some .none
def CX1 (P:Program) (w:World):CXT:=fun outer H s E e s'=>∃ (a T C:Addr) (H':Hp),e=.ref a/\s'.os=s.os/\AllBare s'.gens/\Un (frs outer) [] H H' s.heap s'.heap/\HOk P w H' s'.heap/\zR s'.heap a (.ref C) T /\
 s.heap.get? a=none/\s.heap.get? T=none/\H' a=none/\H' T=none/\E (.ref C) none H'
theorem eI {h b1 b2:Heap}:∀ {l:List Env},h.FunFrames b1 l->(∀ L∈frs l,b2.get? L=none)->h.FunFrames b2 l
 | [],_,_=>trivial
 | env::rest,⟨hk,⟨L,o,hf,hn,ho,hd⟩,hr⟩,hb=>⟨hk,⟨L,o,hf,hb L (by unfold frs; rw [Ju,hf]; exact Qo ..),ho,hd⟩,eI hr fun M hM=>hb M (by
   unfold frs at hM ⊢
   rw [Ju,hf]
   exact Qm _ hM)⟩
theorem pS {base h h':Heap} {l:List Env} {a:Addr} {cls:Value} {hid:List Addr} (hb:base=PySem.W.hideAll h hid) (hl:h.FunFrames base l) (x:Heap.Left base l a cls h h') (ha:a∈hid) :
  (∀ b o,b∉hid->h.get? b=some o->h'.get? b=some o)/\(∀ b o,b∈frs l->h.get? b=some o->∃ sl,h'.get? b=some { o with slots:=sl })/\∃ T,zR h' a cls T/\T∉frs l/\(T∈hid∨h.get? T=none):=by
 obtain ⟨x1,x2,⟨oe,vs,T,oT,ts,e1,e2,e3,e4,e5,e6,e7,e8,e9⟩,x4⟩:=x
 refine ⟨fun b o nb e=>x1 b o (by rw [hb]; exact PySem.W.hideAll_get _ e nb),fun b o hbf e=>?_,T,⟨oe,vs,oT,ts,e1,e2,e3,e4,e6,e7,e8,e9⟩,fun z=>?_,?_⟩
 ·obtain ⟨_,o',ho',hd'⟩:=hl.mem hbf
  have eo:o'=o:=Option.some.inj (ho'.symm.trans e)
  subst eo
  exact x4 b o' ho' hd'
 ·obtain ⟨_,o',ho',hd'⟩:=x2.mem z
  have eo:o'=oT:=Option.some.inj (ho'.symm.trans e7)
  subst eo
  exact hd' ts e8
 ·by_cases hT:T∈hid
  ·exact .inl hT
  ·refine .inr ?_
   cases q:h.get? T with
   | none=>rfl
   | some o =>
    have:=PySem.W.hideAll_get hid q hT
    rw [<- hb,e5] at this
    cases this
section
variable {P:Program} {w:World} {K:PySem.W.Frag} {mg:Str->Option Value} {base:Heap} {N:List Str} {qual:Str} {scope:Scope} {f:Addr} {cd:Value} {A:Around} {outer:List Env} {s0:Shared} {H0:Hp} {E:XK}
theorem zS {pins:List (Addr×Obj)} {σ:St} {H:Hp} {s:Shared} {h':Heap} {a C:Addr} {hid:List Addr} {bs:Heap} (I:Inv (lM (CX1 P w) P w K mg base N qual scope f cd A outer s0 H0 E) pins σ H s)
  (hb:bs=PySem.W.hideAll s.heap hid) (hl:s.heap.FunFrames bs (envOfC qual scope s0.heap.objs.size f cd::outer)) (x:Heap.Left bs (envOfC qual scope s0.heap.objs.size f cd::outer) a (.ref C) s.heap h') (ha:a∈hid)
  (hh:∀ b∈hid,b∈frs (envOfC qual scope s0.heap.objs.size f cd::outer)∨(s0.heap.get? b=none/\H b=none)) (hE:E (.ref C) none H) (ha0:s0.heap.get? a=none) (hHa:H a=none) :
  CX1 P w outer H0 s0 E (.ref a) { s with heap:=h' }:=by
 obtain ⟨k1,k2,T,fl,nT,hT⟩:=pS hb hl x ha
 have Lne:∀ b o,s0.heap.get? b=some o->b≠s0.heap.objs.size:=fun b o e z=>Jb _ (z ▸ Ql e)
 have fs:∀ b,b∈frs (envOfC qual scope s0.heap.objs.size f cd::outer)↔b=s0.heap.objs.size∨b∈frs outer:=fun b=>by
  unfold frs
  rw [Ju]
  exact Qk
 have un:Un (frs outer) [] H0 H s0.heap s.heap:=I.base
 have nh:∀ b o,s0.heap.get? b=some o->b∉frs outer->b∉hid:=fun b o e nb z=>by
  rcases hh b z with q | q
  ·rcases (fs b).mp q with q | q
   ·exact Lne b o e q
   ·exact nb q
  ·rw [q.1] at e; cases e
 have trk:∀ b u,H b=some u->b∉hid:=fun b u e z=>by
  rcases hh b z with q | q
  ·rw [I.stkFree b q] at e; cases e
  ·rw [q.2] at e; cases e
 have T0:s0.heap.get? T=none/\H T=none:=by
  rcases hT with z | z
  ·rcases hh T z with q | q
   ·exact absurd q nT
   ·exact q
  ·refine ⟨?_,?_⟩
   ·cases q:s0.heap.get? T with
    | none=>rfl
    | some o =>
     obtain ⟨o',e⟩:=un.there T o q (by simp)
     rw [z] at e; cases e
   ·cases q:H T with
    | none=>rfl
    | some u =>
     obtain ⟨o',e⟩:=(I.hok T u q).isThere
     rw [show s.heap.get? T=none from z] at e; cases e
 refine ⟨a,T,C,H,rfl,I.os,I.bare,⟨fun b o e n nb _=>?_,fun b o e n hb' _=>?_,un.free,fun b o e _=>?_,un.tups,un.frzs,un.tbls⟩,fun b u e=>?_,fl,ha0,T0.1,hHa,T0.2,hE⟩
 ·exact k1 b o (nh b o e nb) (un.keep b o e n nb (by simp))
 ·obtain ⟨sl,q⟩:=un.slot b o e n hb' (by simp)
  obtain ⟨sl',q'⟩:=k2 b _ ((fs b).mpr (.inr hb')) q
  exact ⟨sl',q'⟩
 ·obtain ⟨o',q⟩:=un.there b o e (by simp)
  by_cases hb':b∈frs outer
  ·obtain ⟨sl,q'⟩:=k2 b _ ((fs b).mpr (.inr hb')) q
   exact ⟨_,q'⟩
  ·exact ⟨o',k1 b o' (nh b o e hb') q⟩
 ·refine (I.hok b u e).stay (fun c v hc q=>k1 c v ?_ q) (fun _ q=>q) fun _ _ q=>q
  rcases hc with z | z
  ·rw [z]; exact trk b u e
  ·exact trk c _ z
theorem lH:mW (CX1 P w) (lM (CX1 P w) P w K mg base N qual scope f cd A outer s0 H0 E) E:=by
 intro pins σ H s e s' I h
 obtain ⟨a,T,C,H',rfl,os,bare,un,hok,fl,na,nT,hHa,hHT,hE⟩:=h
 have I3:Inv (lM (CX1 P w) P w K mg base N qual scope f cd A outer s0 H0 E) pins σ H' s':=I.call' (ch:=[]) os un hok bare (fun b z=>absurd z (by simp))
 have un0:Un (frs outer) [] H0 H s0.heap s.heap:=I.base
 have n0:∀ b,s.heap.get? b=none->s0.heap.get? b=none:=fun b z=>by
  cases q:s0.heap.get? b with
  | none=>rfl
  | some o =>
   obtain ⟨o',e⟩:=un0.there b o q (by simp)
   rw [z] at e; cases e
 have hl:s'.heap.FunFrames (PySem.W.hideAll s'.heap (a::T::frs (envOfC qual scope s0.heap.objs.size f cd::outer))) (envOfC qual scope s0.heap.objs.size f cd::outer) :=
  eI I3.stack fun L hL=>PySem.W.hideAll_none _ (Qm _ (Qm _ hL))
 obtain ⟨oe,vs,oT,ts,e1,e2,e3,e4,e6,e7,e8,e9⟩:=fl
 show wpAny (model P w) (A.deeper (envOfC qual scope s0.heap.objs.size f cd)) (leaving (envOfC qual scope s0.heap.objs.size f cd) (.ref a)) _ _ s'
 refine wpAny_leaving_next (base:=PySem.W.hideAll s'.heap (a::T::frs (envOfC qual scope s0.heap.objs.size f cd::outer))) (cls:=.ref C) I3.ok.frames hl rfl
  ⟨oe,vs,T,oT,ts,e1,e2,e3,e4,PySem.W.hideAll_none _ (by simp),e6,e7,e8,e9⟩ (fun b o q=>PySem.W.of_hideAll _ q) (PySem.W.hideAll_none _ (by simp)) fun h' lf=>?_
 refine zS I3 rfl hl lf (by simp) (fun b hb=>?_) hE (n0 a na) hHa
 rcases Qk.mp hb with z | hb
 ·rw [z]; exact .inr ⟨n0 a na,hHa⟩
 rcases Qk.mp hb with z | hb
 ·rw [z]; exact .inr ⟨n0 T nT,hHT⟩
 ·exact .inl hb
theorem zT {pins:List (Addr×Obj)} {σ:St} {H:Hp} {s:Shared} {h':Heap} {a C:Addr} {vs:List Value} (I:Inv (lM (CX1 P w) P w K mg base N qual scope f cd A outer s0 H0 E) pins σ H s) (m:Heap.MadeExcOf s.heap h' a (.ref C) vs) (hE:E (.ref C) none H) :
  (lM (CX1 P w) P w K mg base N qual scope f cd A outer s0 H0 E).xe (.ref a) { s with heap:=h' }:=by
 obtain ⟨t,e1,_,_⟩:=m.there
 have I3:Inv (lM (CX1 P w) P w K mg base N qual scope f cd A outer s0 H0 E) pins σ H { s with heap:=h' }:=I.kept (t':=s.toks) m.keeps
 have un0:Un (frs outer) [] H0 H s0.heap s.heap:=I.base
 have a0:s0.heap.get? a=none:=by
  cases q:s0.heap.get? a with
  | none=>rfl
  | some o =>
   obtain ⟨o',e⟩:=un0.there a o q (by simp)
   rw [m.new] at e; cases e
 have hHa:H a=none:=by
  cases q:H a with
  | none=>rfl
  | some u =>
   obtain ⟨o',e⟩:=(I.hok a u q).isThere
   rw [m.new] at e; cases e
 have hl:h'.FunFrames (PySem.W.hideAll h' (a::frs (envOfC qual scope s0.heap.objs.size f cd::outer))) (envOfC qual scope s0.heap.objs.size f cd::outer) :=
  eI I3.stack fun L hL=>PySem.W.hideAll_none _ (Qm _ hL)
 show wpAny (model P w) (A.deeper (envOfC qual scope s0.heap.objs.size f cd)) (leaving (envOfC qual scope s0.heap.objs.size f cd) (.ref a)) _ _ { s with heap:=h' }
 refine wpAny_leaving_first (base:=PySem.W.hideAll h' (a::frs (envOfC qual scope s0.heap.objs.size f cd::outer))) I3.ok.frames hl rfl e1 (fun b o q=>PySem.W.of_hideAll _ q) (PySem.W.hideAll_none _ (by simp)) rfl rfl fun h2 lf=>?_
 refine zS (s:={ s with heap:=h' }) I3 rfl hl lf (by simp) (fun b hb=>?_) hE a0 hHa
 rcases Qk.mp hb with z | hb
 ·rw [z]; exact .inr ⟨a0,hHa⟩
 ·exact .inl hb
theorem Fun.okX {x qual:Str} {st:Stmt} {f:Addr} {fd:FuncData} {N ps:List Str} {k:Nat} {sp:Sp} (F:Fun K x qual st f fd) (S:FnScope N ps (aO st)) (len:∀ vs H Q E,sp vs H Q E->vs.length=ps.length)
  (hbody:∀ (cdv:Value) (A:Around) (outer:List Env) (s:Shared) (H:Hp) (vs:List V) (Q:VK) (E:XK),Room k (A.deeper (envOfC qual (aO st) s.heap.objs.size f cdv))->sp vs H Q E ->
   ∃ t,PSs (lM (CX1 P w) P w K mg base N qual (aO st) f cdv A outer s H E) (cN st) t/\t { nx:=fun _ H'=>Q .non H',rt:=Q } (lG N vs) H):FnOk P w K mg base (CX1 P w) (k+1) f fd ps sp:=by
 obtain ⟨oc,od,kV,doc,pm,an,cdv,ct,osl,rfl,lk,hcd⟩:=F.ex
 exact aBk lk hcd S len fun A outer s H vs Q E hr hsp=>hbody cdv A outer s H vs Q E hr hsp
end
abbrev vbm:List Value:=[.type "ValueError",.type "Exception",.type "BaseException",.type "object"]
def qns:List Str:=["__init__", "__getattribute__", "__getattr__", "__class__"]
inductive TailN (h:Heap) (bmB:List Value):List Value->Prop
 | base:TailN h bmB bmB
 | own {A:Addr} {c0:Value} {dd:Option Addr} {cd:ClassData} {sl:Array (Option Value)} {mA:Str->Option Value} {tl:List Value} :
   h.get? A=some { cls:=c0,dict:=dd,data:=.cls cd,slots:=sl }->h.Ns cd.ns mA->(∀ n∈qns,mA n=none)->TailN h bmB tl->TailN h bmB (.ref A::tl)
theorem TailN.tail {h:Heap} {bmB tl:List Value} (T:TailN h bmB tl):OwnTail h bmB tl:=by
 induction T with
 | base=>exact .base
 | own hA hN hq _ ih=>exact .own hA hN (hq _ (.head _)) ih
theorem TailN.keeps {h h':Heap} {bmB tl:List Value} (T:TailN h bmB tl) (hk:∀ b o,h.get? b=some o->h'.get? b=some o):TailN h' bmB tl:=by
 induction T with
 | base=>exact .base
 | own hA hN hq _ ih=>exact .own (hk _ _ hA) (hN.keeps hk) hq ih
def EcH (h:Heap) (C:Addr) (bm:List Value):Prop:=∃ N nm q bs hdct sn sub ab col dd k0 k1 k2 k3 k5 mN,h.get? C=some (excClassObj nm q C N bs bm hdct sn sub ab col dd k0 k1 k2 k3 k5 "ValueError.__new__")/\h.Ns N mN/\(∀ n∈qns,mN n=none)/\TailN h vbm bm
theorem EcH.keeps {h h':Heap} {C:Addr} {bm:List Value} (x:EcH h C bm) (hk:∀ b o,h.get? b=some o->h'.get? b=some o):EcH h' C bm:=by
 obtain ⟨N,nm,q,bs,hdct,sn,sub,ab,col,dd,k0,k1,k2,k3,k5,mN,hC,hN,hq,T⟩:=x
 exact ⟨N,nm,q,bs,hdct,sn,sub,ab,col,dd,k0,k1,k2,k3,k5,mN,hk _ _ hC,hN.keeps hk,hq,T.keeps hk⟩
section
variable {M:Model} {prog:Program} {w:World} {A:Around} {E:Value->Shared->Prop} {h:Heap} {g:Array GenState} {d:Drawn} {t:Nat} {os:OsState} {a C:Addr} {o:Obj} {bm:List Value}
theorem aC0 {bmB tl:List Value} {n:Str} {y:Option Value} {Q:Option Value->Shared->Prop} (hn:n∈qns) (T:TailN h bmB tl) (hrest:lookupAlong bmB n=pure y) (hq:Q y ⟨h,g,d,t,os⟩) :
  wpAny M A (lookupAlong tl n) Q E ⟨h,g,d,t,os⟩:=by
 induction T with
 | base=>rw [hrest]; exact wpAny_pure hq
 | own hA hN hni _ ih =>
  rw [lookupAlong_cons]
  refine wpAny_bind (wpAny_classOwn_cls hA hN ?_)
  rw [hni n hn]
  exact ih
theorem xY {n:Str} {y:Option Value} {Q:Option Value->Shared->Prop} (hn:n∈qns) (x:EcH h C bm) (hB:typeLookup (.type "ValueError") n=pure y) (hq:Q y ⟨h,g,d,t,os⟩):wpAny M A (typeLookup (.ref C) n) Q E ⟨h,g,d,t,os⟩:=by
 obtain ⟨N,nm,q,bs,hdct,sn,sub,ab,col,dd,k0,k1,k2,k3,k5,mN,hC,hN,hmN,T⟩:=x
 have hrest:lookupAlong vbm n=pure y:=by rw [typeLookup_eq,PySem.F.excBase_ValueError.mroIs] at hB; exact hB
 rw [typeLookup_eq]
 refine wpAny_bind (wpAny_mroOf_exc hC ?_)
 rw [lookupAlong_cons]
 refine wpAny_bind (wpAny_classOwn_exc hC hN ?_)
 rw [hmN n hn]
 exact aC0 hn T hrest hq
theorem vO:typeLookup (.type "ValueError") "__class__" = pure (some (.builtin "object.__class__")):=by rw [typeLookup_type,builtinLookup_eq_fast]; kernel_rfl
theorem pT {base:Value} {Q:Bool->Shared->Prop} (x:EcH h C bm) (hq:Q ((Value.ref C::bm).contains base) ⟨h,g,d,t,os⟩):wpAny M A (isSubtype (.ref C) base) Q E ⟨h,g,d,t,os⟩:=by
 obtain ⟨N,nm,q,bs,hdct,sn,sub,ab,col,dd,k0,k1,k2,k3,k5,mN,hC,hN,hmN,T⟩:=x
 exact wpAny_isSubtype_exc hC hq
theorem EcH.has {T:String} (x:EcH h C bm) (hb:vbm.contains (.type T)=true):(Value.ref C::bm).contains (.type T)=true:=by
 obtain ⟨N,nm,q,bs,hdct,sn,sub,ab,col,dd,k0,k1,k2,k3,k5,mN,hC,hN,hmN,TT⟩:=x
 rw [Zx,TT.tail.hasType hb,Bool.or_true]
theorem vP {R:Result->Shared->Prop} (x:EcH h C bm) (hx:h.get? a=some o) (hc:o.cls=.ref C) (hq:R (.ok (.ret (.ref C))) ⟨h,g,d,t,os⟩) :
  codeAny (model prog w) A (.call (.builtin "getset_descriptor.__get__") ⟨[.builtin "object.__class__",.ref a,.ref C],[]⟩) R ⟨h,g,d,t,os⟩:=by
 have hT5:(⟨h,g,d,t,os⟩:Shared).TypeIs (.builtin "object.__class__") "getset_descriptor" := PySem.F.typeOf_object_class
 have hcB:(Value.ref C::bm).contains (.type (".".intercalate ("object.__class__".cutAt '.').dropLast))=true:=by
  rw [PySem.F.owner_object_class]; exact x.has (by decide +kernel)
 refine codeAny_call_builtin PySem.F.slot_gs_get.plain PySem.F.entry_gs_get (PySem.F.slot_gs_get.check _ _ _ _ _ _ _ _ hT5 (PySem.F.args_gs_get _ _ _) ?_)
 repeat (any_goals (first | assumption | (with_reducible refine wpAny_loadPart_at hx ?_; rw [hc]) | (with_reducible refine pT x ?_; rw [hcB]) | wp_step))
 refine ⟨Code.quiet_builtin _ (by decide +kernel),codeAny_builtin PySem.F.entry_object_class ?_⟩
 repeat (any_goals (first | assumption | (with_reducible refine wpAny_loadPart_at hx ?_; rw [hc]) | wp_step))
theorem rF {tk:Tok} {Q:PySem.Fin->Shared->Prop} (x:EcH h C bm) (hx:h.get? a=some o) (hc:o.cls=.ref C) (hq:Q (.done (.ret (.ref C))) ⟨h,g,d,t,os⟩) :
  wpAny (model prog w) A (Builtin.«object.__getattribute__» ⟨[.ref a,.str "__class__" tk],[]⟩) Q E ⟨h,g,d,t,os⟩:=by
 have hT5:(⟨h,g,d,t,os⟩:Shared).TypeIs (.builtin "object.__class__") "getset_descriptor" := PySem.F.typeOf_object_class
 have f5:=PySem.F.typeOf_object_class
 have f6:=PySem.F.slot_gs_get.lookup
 have f7:=PySem.F.slot_gs_set.lookup
 have hm:("__class__" : Str)∈qns:=.tail _ (.tail _ (.tail _ (.head _)))
 repeat (any_goals (first | assumption | (with_reducible refine wpAny_loadPart_at hx ?_; rw [hc]) | with_reducible refine xY hm x vO ?_ | wp_step))
 refine vP x hx hc ?_
 repeat (any_goals (first | assumption | wp_step))
theorem xZ {nameV:Value} {Q:Unit->Shared->Prop} (x:EcH h C bm) (hx:h.get? a=some o) (hc:o.cls=.ref C) (hq:Q () ⟨h,g,d,t,os⟩):wpAny M A (checkBuiltinCall "BaseException.__getattribute__" ⟨[.ref a,nameV],[]⟩) Q E ⟨h,g,d,t,os⟩:=by
 have hk:builtinKind "BaseException.__getattribute__" = some .slot:=by decide +kernel
 have hsplit:splitId "BaseException.__getattribute__" = some ("BaseException", "__getattribute__"):=by decide +kernel
 have hcB:(Value.ref C::bm).contains (.type "BaseException")=true:=x.has (by decide +kernel)
 have ha:=PySem.F.args_bexc_ga (.ref a) nameV
 simp only [checkBuiltinCall,hk,hsplit]
 refine wpAny_bind ?_
 ·unfold isInstance
  repeat (first | (with_reducible refine wpAny_loadPart_at hx ?_; rw [hc]) | (with_reducible refine pT x ?_; rw [hcB]) | wp_step)
  exact hq
theorem yA {tk:Tok} {Q:Value->Shared->Prop} (x:EcH h C bm) (hx:h.get? a=some o) (hc:o.cls=.ref C) (hq:Q (.ref C) ⟨h,g,d,t,os⟩):wpAny (model prog w) A (getAttrBy (.ref a) (.str "__class__" tk) false) Q E ⟨h,g,d,t,os⟩:=by
 have FB:=PySem.F.attrBase_ValueError
 have f3:=FB.ga.bind (.ref a)
 have hx2:(Value.builtin "BaseException.__getattribute__" == Value.builtin "object.__getattribute__")=false:=by decide +kernel
 have hx1:(onTheHeap (Value.ref C) && Value.builtin "BaseException.__getattribute__" == Value.builtin "object.__getattribute__")=false:=by rw [hx2]; rfl
 have hm1:("__getattribute__" : Str)∈qns:=.tail _ (.head _)
 have hm2:("__getattr__" : Str)∈qns:=.tail _ (.tail _ (.head _))
 repeat (any_goals (first | assumption | (with_reducible refine wpAny_loadPart_at hx ?_; rw [hc]) | with_reducible refine xY hm1 x FB.ga.lookup ?_ | with_reducible refine xY hm2 x FB.noGetattr ?_ | wp_step))
 refine codeAny_call_builtin FB.ga.plain PySem.F.entry_bexc_ga (xZ x hx hc (rF x hx hc ?_))
 repeat (any_goals (first | assumption | wp_step))
theorem tR {Q:Option Value->Shared->Prop} (x:EcH h C bm) (hx:h.get? a=some o) (hc:o.cls=.ref C) (hq:Q (some (.ref C)) ⟨h,g,d,t+1,os⟩):wpAny (model prog w) A (getAttr? (.ref a) "__class__") Q E ⟨h,g,d,t,os⟩:=by
 unfold getAttr? getAttrBy?
 repeat (any_goals (first | assumption | with_reducible apply yA x hx hc | wp_step))
theorem aC1 {C':Addr} {dd':Option Addr} {cd':ClassData} {sl':Array (Option Value)} {Q:Value->Shared->Prop} (x:EcH h C bm) (hx:h.get? a=some o) (hc:o.cls=.ref C) (hC':h.get? C'=some { cls:=.type "type",dict:=dd',data:=.cls cd',slots:=sl' })
  (hq:∀ t',Q (.bool ((Value.ref C::bm).contains (.ref C'))) ⟨h,g,d,t',os⟩):wpAny (model prog w) A (call (.builtin "isinstance") [.ref a,.ref C']) Q E ⟨h,g,d,t,os⟩:=by
 have f3:=tc_sub
 have hT':(⟨h,g,d,t,os⟩:Shared).TypeIs (.ref C') "type" := ⟨_,hC',rfl⟩
 obtain ⟨N,nm,q,bs,hdct,sn,sub,ab,col,dd,k0,k1,k2,k3,k5,mN,hC,_⟩:=id x
 refine PyProof.Rows.call_isinstance_of ?_ (by intro e; cases e)
 by_cases e:C=C'
 ·subst e
  have hb:(Value.ref C::bm).contains (.ref C)=true:=by simp
  rw [hb] at hq
  unfold Builtin.«isinstance.nested»
  repeat (any_goals (first | assumption | (with_reducible refine wpAny_loadPart_at hx ?_; rw [hc]) | wp_step))
  exact hq _
 ·have hne:(Value.ref C==Value.ref C')=false:=by simp [e]
  cases hb:(Value.ref C::bm).contains (.ref C') with
  | true =>
   rw [hb] at hq
   unfold Builtin.«isinstance.nested»
   repeat (any_goals (first | assumption | (with_reducible refine wpAny_loadPart_at hx ?_; rw [hc]) | (with_reducible refine wpAny_loadPart_at hC' ?_) | (with_reducible refine pT x ?_; rw [hb]) | wp_step))
   exact hq _
  | false =>
   rw [hb] at hq
   have hTC:∀ t',(⟨h,g,d,t',os⟩:Shared).TypeIs (.ref C) "type" := fun _=>⟨_,hC,rfl⟩
   unfold Builtin.«isinstance.nested»
   repeat (any_goals (first | assumption | (with_reducible refine wpAny_loadPart_at hx ?_; rw [hc]) | (with_reducible refine wpAny_loadPart_at hC' ?_) | (with_reducible refine pT x ?_; rw [hb]) | with_reducible refine tR x hx hc ?_ | (with_reducible refine wpAny_loadPart_at hC ?_) | wp_step))
   exact hq _
theorem aEt {Q:Value->Shared->Prop} (x:EcH h C bm) (hx:h.get? a=some o) (hc:o.cls=.ref C)
  (hq:∀ t',Q (.bool true) ⟨h,g,d,t',os⟩):wpAny (model prog w) A (call (.builtin "isinstance") [.ref a,.type "ValueError"]) Q E ⟨h,g,d,t,os⟩:=by
 have f3:=tc_sub
 have hty:typeOf (.type "ValueError")=pure (.type "type"):=by kernel_rfl
 have hne:(Value.ref C==Value.type "ValueError")=false:=by rfl
 have hb:(Value.ref C::bm).contains (.type "ValueError")=true:=x.has (by decide +kernel)
 refine PyProof.Rows.call_isinstance_of ?_ (by intro e; cases e)
 unfold Builtin.«isinstance.nested»
 repeat (any_goals (first | assumption | (with_reducible refine wpAny_loadPart_at hx ?_; rw [hc]) | (with_reducible refine pT x ?_; rw [hb]) | wp_step))
 exact hq _
end
def ExO (C a:Addr):HO:=.ext fun h=>∃ o,h.get? a=some o/\o.cls=.ref C
section
variable {X:Cx}
theorem Inv.exo {pins:List (Addr×Obj)} {σ:St} {H:Hp} {s:Shared} {a C:Addr} (I:Inv X pins σ H s) (h:H a=some (ExO C a)):∃ o,s.heap.get? a=some o/\o.cls=.ref C:=(I.hok a _ h).1
theorem tS {K:PySem.W.Frag} {C':Addr} (hK:X.K=K) (hC':∀ h:Heap,K.In h->∃ dd cd sl,h.get? C'=some { cls:=.type "type",dict:=dd,data:=.cls cd,slots:=sl }) :
  dP X (.builtin "isinstance") (fun xs H Q=>∃ a C bm,xs = [.ref a,.ref C']/\H a=some (ExO C a)/\(∀ h:Heap,K.In h->EcH h C bm)/\Q (.bl ((Value.ref C::bm).contains (.ref C'))) H):=by
 subst hK
 intro pins s σ H xs us Q I r h
 obtain ⟨a,C,bm,rfl,hH,hE,q⟩:=h
 obtain ⟨u,t,rfl,rx,rt⟩:=lF r
 cases rx
 cases rt
 obtain ⟨o,ho,hc⟩:=I.exo hH
 obtain ⟨dd,cd,sl,h2⟩:=hC' _ I.kIn
 obtain ⟨hh,g,d,tk,os⟩:=s
 exact aC1 (hE _ I.kIn) ho hc h2 fun t'=>⟨.bl _,H,I.tok _,rfl,q⟩
theorem vQ {K:PySem.W.Frag} (hK:X.K=K) :
  dP X (.builtin "isinstance") (fun xs H Q=>∃ a C bm,xs = [.ref a,.ty "ValueError"]/\H a=some (ExO C a)/\(∀ h:Heap,K.In h->EcH h C bm)/\Q (.bl true) H):=by
 subst hK
 intro pins s σ H xs us Q I r h
 obtain ⟨a,C,bm,rfl,hH,hE,q⟩:=h
 obtain ⟨u,t,rfl,rx,rt⟩:=lF r
 cases rx
 cases rt
 obtain ⟨o,ho,hc⟩:=I.exo hH
 obtain ⟨hh,g,d,tk,os⟩:=s
 exact aEt (hE _ I.kIn) ho hc fun t'=>⟨.bl _,H,I.tok _,rfl,q⟩
def aEu (C:Addr) (E:XK):TS:=fun _ _ H=>E (.ref C) none H
theorem vR {x txt:Str} {np cpos pos p2:Pos} {k:Nat} {C:Addr} {bm:List Value} {E:XK} (hEc:∀ h:Heap,X.K.In h->EcH h C bm) (hg:Gl X x) (hm:X.mg x=some (.ref C)) (hc:X.calm=true)
  (hR:∀ (pins:List (Addr×Obj)) (σ:St) (H:Hp) (s:Shared) (h':Heap) (a:Addr) (vs:List Value),Inv X pins σ H s->Heap.MadeExcOf s.heap h' a (.ref C) vs->E (.ref C) none H->X.xe (.ref a) { s with heap:=h' })
  (hdb:(x==("__debug__" : Str))=false:=by decide) :
  PS X (.Raise (some (.Call (.Name x np) [.Constant (.str txt) k p2] [] cpos)) none pos) (aEu C E):=by
 intro pins s σ H D I h
 obtain ⟨N,nm,q,bs,hdct,sn,sub,ab,col,dd,k0,k1,k2,k3,k5,mN,hC,hN,hq,T⟩:=hEc _ I.ok.mod.kin
 refine wpAny_Raise_call_subU (C:=C) (nm:=nm) (q:=q) (N:=N) (bs:=bs) (bm:=bm) (hdct:=hdct) (sn:=sn) (sub:=sub) (ab:=ab) (col:=col) (dd:=dd) (k0:=k0) (k1:=k1) (k2:=k2) (k3:=k3) (k5:=k5) (mN:=mN)
  PySem.F.excBase_ValueError (by decide +kernel) PySem.F.excBase_ValueError (T.tail.hasType (by decide +kernel)) (I.ok.hd hc) rfl (hq _ (.head _)) ?_
 refine kP I hg hm ⟨rfl,?_⟩ hdb
 have ha:PA X [.Constant (.str txt) k p2] (lZ (tC (.str txt)) qZ):=aA iS aE
 refine Calls.evalArgs_plain (wpAny_mono (ha cpos pins s σ H (fun xs H1=>xs.length=1/\E (.ref C) none H1) I ⟨rfl,h⟩) (fun vs s₂ hx9=>?_) fun _ _ y=>y)
 obtain ⟨xs,H1,I1,r,z1,z⟩:=hx9
 have hkk:∀ b o,X.base.get? b=some o->s₂.heap.get? b=some o:=I1.bk
 have hl:=r.length
 refine ⟨rfl,?_,hkk _ _ hC,hN.keeps hkk,T.tail.keeps hkk,fun h' a' m=>hR pins σ H1 s₂ h' a' _ I1 m z⟩
 show vs.length<=_
 rw [sizeLine_eq]
 omega
end
section
variable {P:Program} {w:World} {l:List Env} {H H':Hp} {s s':Shared} {E:XK} {a T C:Addr}
theorem vS {h' bs:Heap} (un:Un (frs l) [] H H' s.heap s'.heap) (os:s'.os=s.os) (bare:AllBare s'.gens) (hok:HOk P w H' s'.heap) (na:s.heap.get? a=none) (nT:s.heap.get? T=none) (hHa:H' a=none) (hHT:H' T=none) (hE:E (.ref C) none H')
  (hb:bs=PySem.W.hideAll s'.heap (a::T::frs l)) (hl:s'.heap.FunFrames bs l) (frf:∀ b∈frs l,H' b=none) (x:Heap.Left bs l a (.ref C) s'.heap h'):CX1 P w l H s E (.ref a) { s' with heap:=h' }:=by
 obtain ⟨k1,k2,T',fl,nT',hT'⟩:=pS hb hl x (by simp)
 have nh:∀ b o,s.heap.get? b=some o->b∉frs l->b∉a::T::frs l:=fun b o e nb z=>by
  rcases Qk.mp z with q | z
  ·rw [q,na] at e; cases e
  rcases Qk.mp z with q | z
  ·rw [q,nT] at e; cases e
  ·exact nb z
 have trk:∀ b u,H' b=some u->b∉a::T::frs l:=fun b u e z=>by
  rcases Qk.mp z with q | z
  ·rw [q,hHa] at e; cases e
  rcases Qk.mp z with q | z
  ·rw [q,hHT] at e; cases e
  ·rw [frf b z] at e; cases e
 have T0:s.heap.get? T'=none/\H' T'=none:=by
  rcases hT' with z | z
  ·rcases Qk.mp z with q | z
   ·rw [q]; exact ⟨na,hHa⟩
   rcases Qk.mp z with q | z
   ·rw [q]; exact ⟨nT,hHT⟩
   ·exact absurd z nT'
  ·refine ⟨?_,?_⟩
   ·cases q:s.heap.get? T' with
    | none=>rfl
    | some o =>
     obtain ⟨o',e⟩:=un.there T' o q (by simp)
     rw [z] at e; cases e
   ·cases q:H' T' with
    | none=>rfl
    | some u =>
     obtain ⟨o',e⟩:=(hok T' u q).isThere
     rw [show s'.heap.get? T'=none from z] at e; cases e
 refine ⟨a,T',C,H',rfl,os,bare,⟨fun b o e n nb _=>?_,fun b o e n hb' _=>?_,un.free,fun b o e _=>?_,un.tups,un.frzs,un.tbls⟩,fun b u e=>?_,fl,na,T0.1,hHa,T0.2,hE⟩
 ·exact k1 b o (nh b o e nb) (un.keep b o e n nb (by simp))
 ·obtain ⟨sl,q⟩:=un.slot b o e n hb' (by simp)
  obtain ⟨sl',q'⟩:=k2 b _ hb' q
  exact ⟨sl',q'⟩
 ·obtain ⟨o',q⟩:=un.there b o e (by simp)
  by_cases hb':b∈frs l
  ·obtain ⟨sl,q'⟩:=k2 b _ hb' q
   exact ⟨_,q'⟩
  ·exact ⟨o',k1 b o' (nh b o e hb') q⟩
 ·refine (hok b u e).stay (fun c v hc q=>k1 c v ?_ q) (fun _ q=>q) fun _ _ q=>q
  rcases hc with z | z
  ·rw [z]; exact trk b u e
  ·exact trk c _ z
theorem zR.traced {h bs:Heap} {cls:Value} (fl:zR h a cls T) (hT:bs.get? T=none):∃ a0,h.TracedW bs a cls a0:=by
 obtain ⟨oe,vs,oT,ts,e1,e2,e3,e4,e6,e7,e8,e9⟩:=fl
 have hs:1 < vs.size:=(Array.getElem?_eq_some_iff.mp e4).1
 exact ⟨vs[0]'(by omega),oe,vs,T,oT,ts,e1,⟨e2,Array.getElem?_eq_getElem _⟩,e3,e4,hT,e6,e7,e8,e9⟩
end
section
variable {X:Cx} {pins:List (Addr×Obj)} {σ:St} {H:Hp} {s s':Shared} {E:XK} {e:Value} {M:Model} {A:Around} {F:Value->Shared->Prop} {L:Addr}
theorem Inv.caught (I:Inv X pins σ H s) (h:CX1 X.prog X.w X.stack H s E e s'):∃ (a C:Addr) (H':Hp),e=.ref a/\Inv X pins σ H' s'/\s.heap.get? a=none/\H' a=none/\E (.ref C) none H'/\∃ o,s'.heap.get? a=some o/\o.cls=.ref C:=by
 obtain ⟨a,T,C,H',rfl,os,bare,un,hok,⟨oe,vs,oT,ts,e1,e2,_⟩,na,nT,hHa,hHT,hE⟩:=h
 exact ⟨a,C,H',rfl,I.call' (ch:=[]) os un hok bare (fun b z=>absurd z (by simp)),na,hHa,hE,oe,e1,e2⟩
theorem aBK (hst:X.stack=X.env::X.outer) (hf:X.env.frame=some L) (hfr:A.frames=some X.stack) (I:Inv X pins σ H s) (h:CX1 X.prog X.w X.stack H s E e s') :
  wpAny M A (noteFrame e X.env) (fun _ s2=>wpAny M A (setFlight e none) (fun _ s3=>CX1 X.prog X.w X.stack H s E e s3) F s2) F s':=by
 obtain ⟨a,T,C,H',rfl,os,bare,un,hok,fl,na,nT,hHa,hHT,hE⟩:=h
 have I3:Inv X pins σ H' s':=I.call' (ch:=[]) os un hok bare (fun b z=>absurd z (by simp))
 have hl:s'.heap.FunFrames (PySem.W.hideAll s'.heap (a::T::frs X.stack)) X.stack :=
  eI I3.stack fun L hL=>PySem.W.hideAll_none _ (Qm _ (Qm _ hL))
 obtain ⟨a0,tr⟩:=fl.traced (bs:=PySem.W.hideAll s'.heap (a::T::frs X.stack)) (PySem.W.hideAll_none _ (by simp))
 have fin:=fun (h':Heap)=>vS (P:=X.prog) (w:=X.w) (h':=h') un os bare hok na nT hHa hHT hE rfl hl I3.stkFree
 generalize hbs:PySem.W.hideAll s'.heap (a::T::frs X.stack)=bs at *
 have kb:bs.StaysIn s'.heap:=fun b o q=>by rw [<- hbs] at q; exact PySem.W.of_hideAll _ q
 have en:bs.get? a=none:=by rw [<- hbs]; exact PySem.W.hideAll_none _ (by simp)
 have hl2:=hl
 rw [hst] at hl2
 refine wpAny_looks_onW (base:=bs) (outer:=X.outer) (by rw [<- hst]; exact hfr) hf ⟨kb,en,hl2,tr⟩ fun h1 held up1=>?_
 refine wpAny_landsW held fun h2 fly up2=>?_
 obtain ⟨f1,f2,f3,f4⟩:=fly.flying
 exact fin h2 ⟨f1,by rw [hst]; exact f3,f4,up1.trans up2⟩
theorem aC2 (I:Inv X pins σ H s) (h:CX1 X.prog X.w X.stack H s E e s'):wpAny M A (setFlight e none) (fun _ s3=>CX1 X.prog X.w X.stack H s E e s3) F s':=by
 obtain ⟨a,T,C,H',rfl,os,bare,un,hok,fl,na,nT,hHa,hHT,hE⟩:=h
 have I3:Inv X pins σ H' s':=I.call' (ch:=[]) os un hok bare (fun b z=>absurd z (by simp))
 have hl:s'.heap.FunFrames (PySem.W.hideAll s'.heap (a::T::frs X.stack)) X.stack :=
  eI I3.stack fun L hL=>PySem.W.hideAll_none _ (Qm _ (Qm _ hL))
 obtain ⟨a0,tr⟩:=fl.traced (bs:=PySem.W.hideAll s'.heap (a::T::frs X.stack)) (PySem.W.hideAll_none _ (by simp))
 have fin:=fun (h':Heap)=>vS (P:=X.prog) (w:=X.w) (h':=h') un os bare hok na nT hHa hHT hE rfl hl I3.stkFree
 generalize hbs:PySem.W.hideAll s'.heap (a::T::frs X.stack)=bs at *
 have kb:bs.StaysIn s'.heap:=fun b o q=>by rw [<- hbs] at q; exact PySem.W.of_hideAll _ q
 refine wpAny_setFlight_noneW kb hl tr.at fun h1 k1 k2 k3 k4=>fin h1 ⟨k1,k2,?_,fun b o q n=>⟨o.slots,k4 b o q n⟩⟩
 obtain ⟨oe,vs,T,oT,ts,he,hc,r⟩:=k3
 exact ⟨oe,vs,T,oT,ts,he,hc.1,r⟩
theorem Inv.trackN {D:Addr} {u:HO} (I:Inv X pins σ H s) (new:bL X.prog X.w (upd H D u) s.heap D u) (hn:H D=none) (hL:D≠X.env.locals)
  (h1:X.s₀.heap.get? D=none) (h2:∀ x c,X.env.cells.lookup x=some c->c≠D) (h3:∀ p∈X.pn++pins,p.1≠D):Inv X pins σ (upd H D u) s:=by
 have ne:∀ b v,H b=some v->b≠D:=fun b v e z=>by rw [z,hn] at e; cases e
 refine ⟨I.ok,I.os,I.bare,⟨I.base.keep,I.base.slot,fun b o q n hx=>?_,I.base.there,fun b xs q=>?_,fun b o v q=>?_,fun b ps q=>?_⟩,I.loc,I.cell,?_,fun x c q=>?_,fun p hp=>?_,fun b v q=>?_,I.len⟩
 ·rw [aK (fun z=>by rw [z,h1] at q; cases q)]; exact I.base.free b o q n hx
 ·have:=I.base.tups b xs q
  rw [aK (ne b _ this)]; exact this
 ·have:=I.base.frzs b o v q
  rw [aK (ne b _ this)]; exact this
 ·obtain ⟨more,this⟩:=I.base.tbls b ps q
  exact ⟨more,by rw [aK (ne b _ this)]; exact this⟩
 ·rw [aK (Ne.symm hL)]; exact I.free
 ·rw [aK (h2 x c q)]; exact I.freeC x c q
 ·obtain ⟨p1,p2,p3⟩:=I.pin p hp
  exact ⟨p1,by rw [aK (h3 p hp)]; exact p2,p3⟩
 ·by_cases hb:b=D
  ·subst hb
   rw [aC] at q; cases q
   exact new
  ·rw [aK hb] at q
   exact (I.hok b v q).stay (fun c v _ q=>q) (fun c q=>by rw [aK (ne c _ q)]; exact q) fun c xs q=>by rw [aK (ne c _ q)]; exact q
theorem aC3 {i:Nat} {x:Str} {pos:Pos} {Q:Unit->Shared->Prop} (I:Inv X pins σ H s) (hN:X.N.Nodup) (hi:X.N[i]?=some x) (hk:X.env.scope.names.lookup x=some .local)
  (h:∀ s',Inv X pins (σ.set i none) H s'->Q () s'):wpAny M A (do bindName X.env x .none; unbindBehindTheSuite X.env x pos) Q F s:=by
 obtain ⟨m,hn,hl⟩:=id I.loc
 have hcls:(X.env.scope.kind==.class || (X.env.scope.kind==.module && X.env.locals !=X.env.globals))=false:=by rw [I.ok.kind]; rfl
 have hiσ:i < σ.length:=by rw [I.len]; exact (Qc.mp hi).1
 have cne:=I.cne
 obtain ⟨oL,_,_,hoL,_⟩:=id hn
 refine wpAny_nameGoes_keeps hk hn hcls fun h' v hn' hs=>?_
 refine h _ ⟨I.ok,I.os,I.bare,⟨fun b o e n hb hx=>?_,fun b o e n hb hx=>?_,I.base.free,fun b o e hx=>?_,I.base.tups,I.base.frzs,I.base.tbls⟩,⟨_,hn',fun j y v' e1 e2 e3=>?_⟩,fun y c e=>?_,I.free,I.freeC,fun p hp=>?_,fun b ob e=>?_,by simpa using I.len⟩
 ·exact (hs.2 b (Qt (Qp (Ql e) I.ok.above))).trans (I.base.keep b o e n hb hx)
 ·obtain ⟨sl,e1⟩:=I.base.slot b o e n hb hx
  exact ⟨sl,(hs.2 b (Qt (Qp (Ql e) I.ok.above))).trans e1⟩
 ·obtain ⟨o',e1⟩:=I.base.there b o e hx
  exact ⟨o',(hs.2 b (Qt (Qp (Ql e) I.ok.above))).trans e1⟩
 ·by_cases hj:j=i
  ·subst hj
   rw [Xx hiσ] at e2
   cases e2
  ·rw [Zd (Ne.symm hj)] at e2
   obtain ⟨u',r',q⟩:=hl j y v' e1 e2 e3
   refine ⟨u',r',?_⟩
   rcases q with ⟨k,e⟩ | ⟨k,c,e,z⟩
   ·refine .inl ⟨k,?_⟩
    have:y≠x:=fun e=>hj (oQ hN e1 (e ▸ hi))
    simp [this,e]
   ·exact .inr ⟨k,c,e,z.sameBut hs (cne _ _ e)⟩
 ·obtain ⟨v',z⟩:=I.cell y c e
  exact ⟨v',z.sameBut hs (cne _ _ e)⟩
 ·obtain ⟨p1,p2,p3,p4⟩:=I.pin p hp
  exact ⟨(hs.2 _ p3).trans p1,p2,p3,p4⟩
 ·refine (I.hok b ob e).stay (fun c w' hc q=>(hs.2 c ?_).trans q) (fun _ q=>q) fun _ _ q=>q
  rintro rfl
  rcases hc with z | hc
  ·rw [<- z,I.free] at e; cases e
  ·rw [I.free] at hc; cases hc
end
section
variable {M:Model} {A:Around} {E:Value->Shared->Prop} {h:Heap} {g:Array GenState} {d:Drawn} {t:Nat} {os:OsState} {a C C':Addr} {oe:Obj} {bm bm':List Value}
theorem aFl {Q:Bool->Shared->Prop} (x:EcH h C bm) (x':EcH h C' bm') (he:h.get? a=some oe) (hc:oe.cls=.ref C) (hb:(Value.ref C::bm).contains (.ref C')=true)
  (hq:Q true ⟨h,g,d,t,os⟩):wpAny M A (excMatches (.ref a) (.ref C')) Q E ⟨h,g,d,t,os⟩:=by
 have hcB:(Value.ref C'::bm').contains (.type "BaseException")=true:=x'.has (by decide +kernel)
 have f:=tc_notTuple
 obtain ⟨N,nm,q,bs,hdct,sn,sub,ab,col,dd,k0,k1,k2,k3,k5,mN,hC',_⟩:=id x'
 unfold excMatches
 repeat (first | (with_reducible refine wpAny_loadPart_at he ?_; rw [hc]) | with_reducible refine wpAny_loadPart_at hC' ?_ | (with_reducible refine pT x' ?_; rw [hcB]) | (with_reducible refine pT x ?_; rw [hb]) | wp_step)
 exact hq
end
abbrev TB:=Ends->XK->St->Hp->Prop
def FX (X:Cx) (pins:List (Addr×Obj)) (σ:St) (EX:XK) (e:Value) (s':Shared):Prop:=∃ (H0:Hp) (s1:Shared),Inv X pins σ H0 s1/\CX1 X.prog X.w X.stack H0 s1 EX e s'
def PB (X:Cx) (st:List Stmt) (t:TB):Prop :=
 ∀ (pins:List (Addr×Obj)) (s:Shared) (σ:St) (H:Hp) (D:Ends) (EX:XK),Inv X pins σ H s->t D EX σ H->wpAny (model X.prog X.w) X.A (execs st X.env) (SP X pins D) (FX X pins σ EX) s
section
variable {X:Cx} {k:Nat} {f:Addr} {fd:FuncData} {ps:List Str} {sp:Sp} {dvs:List V} {ds:List Value} {x:Str} {p pos apos:Pos} {e:Expr} {es:List Expr} {t:TA}
theorem aC4 {pins:List (Addr×Obj)} {σ:St} {H:Hp} {s:Shared} {Q:VK} {EX:XK} (F:FnOk X.prog X.w X.K X.mg X.base (CX1 X.prog X.w) k f fd ps sp) (hr:Room k X.A) (hg:Gl X x) (hm:X.mg x=some (.ref f)) (hk:PySem.W.keepIn X.K (.ref f)=true) (hb:mC X.K fd ps ds) (hd:aZ dvs ds)
  (ha:PA X.nox (e::es) t) (hdb:(x==("__debug__" : Str))=false) (he:starEach (e::es) X.env=(false,eval e X.env)::starEach es X.env) (hpl:(backTo pos (starEach es X.env)).any (·.1)=false)
  (I:Inv X pins σ H s) (h:rR sp dvs EX t σ H Q):wpAny (model X.prog X.w) X.A (eval (.Call (.Name x p) (e::es) [] pos) X.env) (EP X pins σ Q) (FX X pins σ EX) s:=by
 refine wpAny_Call_Name_kw (kP I hg hm ?_ hdb)
 refine PySem.W.callWith_K (h₀:=X.base) I.ok.mod.kin hk (wpAny_mono (ha pos pins s σ H _ (I.wish _) h) (fun us s1 ⟨vs,H1,I1',r,q⟩=>⟨I1'.kIn,?_⟩) fun _ _ z=>False.elim z) he hpl
 have I1:Inv X pins σ H1 s1:=I1'.unwish
 have r2:aZ (vs++dvs) (us++ds):=r.append hd
 have hl:(us++ds).length=ps.length:=by rw [<- r2.length]; exact F.len _ _ _ _ q
 refine wpAny_call (codeAny_mono (F.run X.A X.stack s1 H1 ⟨us,[]⟩ (us++ds) (vs++dvs) Q EX hr I1.env0 (hb s1 us I1.kIn hl) r2 q) fun r s' hq=>?_)
 cases r with
 | error e=>exact ⟨H1,s1,I1,hq⟩
 | ok fl =>
  cases fl with
  | ret u=>exact I1.after hq
  | next=>exact False.elim hq
  | brk=>exact False.elim hq
  | cont=>exact False.elim hq
def aEv (sp:Sp) (dvs:List V) (t:TA):TB:=fun D EX σ H=>rR sp dvs EX t σ H fun _ H2=>D.nx σ H2
theorem aC5 {pos':Pos} (F:FnOk X.prog X.w X.K X.mg X.base (CX1 X.prog X.w) k f fd ps sp) (hr:Room k X.A) (hg:Gl X x) (hm:X.mg x=some (.ref f)) (hk:PySem.W.keepIn X.K (.ref f)=true) (hb:mC X.K fd ps ds) (hd:aZ dvs ds)
  (ha:PA X.nox (e::es) t) (hdb:(x==("__debug__" : Str))=false:=by decide) (he:starEach (e::es) X.env=(false,eval e X.env)::starEach es X.env:=by rfl) (hpl:(backTo pos (starEach es X.env)).any (·.1)=false:=by rfl)
  (hs:swapsWith (.Call (.Name x p) (e::es) [] pos) none pos'.line X.env=pure false:=by rfl):PB X [.Expr (.Call (.Name x p) (e::es) [] pos) pos'] (aEv sp dvs t):=by
 intro pins s σ H D EX I h
 refine wpAny_execs_cons (wpAny_Expr_any (thn (aC4 F hr hg hm hk hb hd ha hdb he hpl I h) fun v s1 hx9=>?_) I.quiet hs)
 obtain ⟨x,H1,I1,r1,q1⟩:=hx9
 exact wpAny_execs_nil ⟨σ,H1,I1,q1⟩
def aFU (X:Cx) (C':Addr) (i j:Nat) (tb:TB):TS:=fun D σ H=>tb D (fun cls _ H2=>∃ C bm,cls=.ref C/\(∀ h:Heap,X.K.In h->EcH h C bm)/\(Value.ref C::bm).contains (.ref C')=true/\∀ a,H2 a=none->D.nx ((σ.set i (some (.ref a))).set j none) (upd H2 a (ExO C a))) σ H
theorem aEw {st:List Stmt} {tb:TB} {dn en cn:Str} {p1 p2 p3 p4 p5 p6:Pos} {i j:Nat} {C' L:Addr} {bm':List Value} (hb:PB X st tb) (hst:X.stack=X.env::X.outer) (hf:X.env.frame=some L) (hex:X.ex = [])
  (hg:Gl X dn) (hm:X.mg dn=some (.ref C')) (hC':∀ h:Heap,X.K.In h->EcH h C' bm') (hN:X.N.Nodup) (hi:X.N[i]?=some cn) (hj:X.N[j]?=some en) (hij:i≠j) (hlc:X.env.scope.names.lookup cn=some .local) (hle:X.env.scope.names.lookup en=some .local)
  (hdb:(dn==("__debug__" : Str))=false:=by decide) (hd2:(en==("__debug__" : Str))=false:=by decide) (hcd:(en==("__classdict__" : Str))=false:=by decide)
  (hs:swapsWith (.Name en p3) (some (.Name cn p2)) p4.line X.env=pure false:=by rfl) :
  PS X (.Try st [.ExceptHandler (some (.Name dn p1)) (some en) [.Assign [.Name cn p2] (.Name en p3) p4] p5] [] [] p6) (aFU X C' i j tb):=by
 intro pins s σ H D I h
 refine wpAny_Try_except (wpAny_mono (hb pins s σ H D _ I h) (fun f s1 q=>?_) fun e s1 q=>?_)
 ·cases f with
  | next=>exact wpAny_execs_nil q
  | ret v=>exact q
  | brk=>exact q
  | cont=>exact q
 obtain ⟨H0,s0,I0,q⟩:=q
 refine wpAny_mono (aBK (F:=X.xe) hst hf I.ok.frames I0 q) (fun _ s2 q2=>wpAny_mono q2 (fun _ s3 q3=>?_) fun _ _ z=>z) fun _ _ z=>z
 obtain ⟨a,_,_,rfl,_⟩:=I0.caught q3
 -- the clause is looked at with the exception held
 have okY:({ X with A:=X.A.mark (some (.ref a)),calm:=false,xe:=fun _ _=>False }:Cx).Ok :=
  ⟨I.ok.mod,I.ok.kind,I.ok.glob,I.ok.blt,I.ok.above,I.ok.inj,I.ok.has,I.ok.cab,fun z=>Bool.noConfusion (show false=true from z),I.ok.frames,I.ok.stk,I.ok.exf,I.ok.bs,I.ok.bsz,I.ok.noex,I.ok.exfs,I.ok.funs,I.ok.frf⟩
 have toY:∀ {σ':St} {H':Hp} {s':Shared},Inv X pins σ' H' s'->Inv { X with A:=X.A.mark (some (.ref a)),calm:=false,xe:=fun _ _=>False } pins σ' H' s':=fun J=>⟨okY,J.os,J.bare,J.base,J.loc,J.cell,J.free,J.freeC,J.pin,J.hok,J.len⟩
 have ofY:∀ {σ':St} {H':Hp} {s':Shared},Inv { X with A:=X.A.mark (some (.ref a)),calm:=false,xe:=fun _ _=>False } pins σ' H' s'->Inv X pins σ' H' s':=fun J=>⟨I.ok,J.os,J.bare,J.base,J.loc,J.cell,J.free,J.freeC,J.pin,J.hok,J.len⟩
 refine wpAny_handleBy_cons (codeAny_handlers_test ?_) (by intro q; cases q)
 obtain ⟨a',C,H3,ea,I3,na,hHa,⟨C1,bm,eC,hEc,hcon,_⟩,o,ho,hc⟩:=I0.caught q3
 cases ea
 cases eC
 refine kP (X:={ X with A:=X.A.mark (some (.ref a)),calm:=false,xe:=fun _ _=>False }) (toY I3) hg hm ?_ hdb
 obtain ⟨hh,gg,dd,tt,oo⟩:=s3
 refine aFl (hEc _ I3.kIn) (hC' _ I3.kIn) ho hc hcon ?_
 show codeAny _ _ _ _ _
 refine codeAny_handlers_suite_as ?_
 refine wpAny_mono (aC2 (F:=fun _ _=>False) I0 q3) (fun _ s4 q4=>?_) fun _ _ z=>False.elim z
 obtain ⟨a',C,H4,ea,I4,na,hHa,⟨C1,bm,eC,hEc,hcon,hnx⟩,o,ho,hc⟩:=I0.caught q4
 cases ea
 cases eC
 have old:∀ b o,s0.heap.get? b=some o->b≠a:=fun b o e z=>by rw [z,na] at e; cases e
 have I5:Inv X pins σ (upd H4 a (ExO C a)) s4:=by
  refine I4.trackN ⟨⟨o,ho,hc⟩,⟨o,ho⟩,fun h1 h2 ⟨o1,e1,c1⟩ k=>⟨o1,k o1 e1,c1⟩⟩ hHa ?_ ?_ (fun y c e=>?_) fun p hp=>?_
  ·obtain ⟨m,⟨oL,_,_,hoL,_⟩,_⟩:=I0.loc
   exact Ne.symm (old _ _ hoL)
  ·cases z:X.s₀.heap.get? a with
   | none=>rfl
   | some o' =>
    obtain ⟨o2,e⟩:=I0.base.there a o' z (by rw [hex]; simp)
    exact absurd rfl (old _ _ e)
  ·obtain ⟨v,oc,hoc,_⟩:=I0.cell y c e
   exact old _ _ hoc
  ·exact old _ _ (I0.pin p hp).1
 refine mT (i:=j) (v:=.ref a) I5 hN hj (.inl hle) rfl (fun s5 I6 _=>?_) (.inr hle)
 have P1:PSs { X with A:=X.A.mark (some (.ref a)),calm:=false,xe:=fun _ _=>False } [.Assign [.Name cn p2] (.Name en p3) p4] (lB (jK j) (fU i)):=aL (aX hN hi (.inl hlc) (aBb hj (.inl hle) hd2 hcd) hs (.inr hlc))
 have jl:j < σ.length:=by rw [I4.len]; exact (Qc.mp hj).1
 refine wpAny_mono (P1 pins s5 _ _ { nx:=fun σ' H'=>σ'=(σ.set j (some (.ref a))).set i (some (.ref a))/\H'=upd H4 a (ExO C a),rt:=fun _ _=>False } (toY I6) ⟨.ref a,Xx jl,rfl,rfl⟩) (fun fl s6 q6=>?_) fun _ _ z=>False.elim z
 cases fl with
 | next =>
  obtain ⟨σ',H',I7,rfl,rfl⟩:=q6
  refine aC3 (ofY I7) hN hj hle fun s8 I8=>⟨_,_,I8,?_⟩
  have:=hnx a hHa
  rw [List.set_comm _ _ hij.symm,List.set_set]
  exact this
 | ret v=>obtain ⟨_,_,_,_,_,z⟩:=q6; exact z.elim
 | brk=>obtain ⟨_,_,_,z⟩:=q6; exact z.elim
 | cont=>obtain ⟨_,_,_,z⟩:=q6; exact z.elim
end
theorem sG {bs:List Bool}:∀ {us:List Value},aZ (bs.map V.bl) us->us=bs.map Value.bool:=by
 induction bs with
 | nil=>intro us r; rw [Ym] at r; cases r; rfl
 | cons b bs ih =>
  intro us r
  rw [Qu] at r
  cases r with
  | cons r1 r2 =>
   have e:_=Value.bool b:=r1
   rw [Qu,<- ih r2,e]
theorem vT {bs:List Bool} {k:Bool} {y:Value} (hy:y∈bs.map Value.bool) (A:Around) (s:Shared):SeqAt.EqAt A s y (.bool k) (isBoolOf k y):=by
 obtain ⟨b,_,rfl⟩:=Jl.mp hy
 exact SeqAt.EqAt.bool_bool b k
section
variable {X:Cx} {K:PySem.W.Frag}
theorem yB (hK:X.K=K):MtR X "list.count" (fun x vs H Q=>∃ (a:Addr) (bs:List Bool) (k:Bool),x=.ref a/\vs = [.bl k]/\SqL K H a (bs.map V.bl)/\Q (.int (bs.count k:Nat)) H):=by
 subst hK
 intro pins s σ H x xs v us Q I rx r h
 obtain ⟨a,bs,k,rfl,rfl,ha,q⟩:=h
 obtain ⟨u,rfl,e⟩:=gG r
 cases e
 cases rx
 obtain ⟨its,rv,⟨⟨cls,dd,data,sl⟩,n,ho,hc,hdd,hd⟩,hzz⟩:=I.list ha
 simp only at hc hd
 subst hc hd
 obtain rfl:=sG rv
 refine call_meets PySem.F.slot_list_count ⟨_,ho,rfl⟩ PySem.F.entry_list_count (PySem.F.args_list_count_2 _ _) (SeqAt.list_countAt a (bs.map Value.bool).toArray n dd sl (.bool k) (isBoolOf k)) ⟨ho,fun y hy=>vT (by simpa using hy) _ _,?_⟩
 have e:((bs.map Value.bool).toArray.toList.countP (isBoolOf k))=bs.count k:=by
  rw [Xe,List.countP_map]
  rfl
 rw [e]
 exact ⟨.int _,H,I.tok _,⟨_,rfl⟩,q⟩
theorem yC (hK:X.K=K):MtR X "list.index" (fun x vs H Q=>∃ (a:Addr) (bs:List Bool) (k:Bool) (j:Nat),x=.ref a/\vs = [.bl k]/\SqL K H a (bs.map V.bl)/\bs[j]?=some k/\(∀ m,m < j->bs[m]?≠some k)/\Q (.int (j:Nat)) H):=by
 subst hK
 intro pins s σ H x xs v us Q I rx r h
 obtain ⟨a,bs,k,j,rfl,rfl,ha,hj,hno,q⟩:=h
 obtain ⟨u,rfl,e⟩:=gG r
 cases e
 cases rx
 obtain ⟨its,rv,⟨⟨cls,dd,data,sl⟩,n,ho,hc,hdd,hd⟩,hzz⟩:=I.list ha
 simp only at hc hd
 subst hc hd
 obtain rfl:=sG rv
 have hjl:j < bs.length:=(Qc.mp hj).1
 have hzl:bs.length<=sizeLine:=by rw [Qb] at hzz; exact hzz
 have val:∀ m (hm:m < (bs.map Value.bool).toArray.size),isBoolOf k (bs.map Value.bool).toArray[m]=decide (bs[m]?=some k):=fun m hm=>by
  have hmn:m < bs.length:=by simpa using hm
  have e:(bs.map Value.bool).toArray[m]=Value.bool bs[m]:=by simp
  rw [e,Qd hmn]
  unfold isBoolOf
  by_cases z:bs[m]=k
  ·simp [z]
  ·simp [z]
 refine call_meets PySem.F.slot_list_index ⟨_,ho,rfl⟩ PySem.F.entry_list_index (PySem.F.args_list_index_2 _ _) (SeqAt.list_indexAt a (bs.map Value.bool).toArray n dd sl (.bool k) (isBoolOf k) j (by simp; omega) (by rw [sizeLine_eq] at hzl; omega) ?_ ?_) ⟨ho,fun y hy=>vT (by simpa using hy) _ _,?_⟩
 ·rw [val,hj]; simp
 ·intro m hm hlt
  rw [val]
  exact decide_eq_false (hno m hlt)
 ·exact ⟨.int _,H,I.tok _,⟨_,rfl⟩,q⟩
end
structure PEo (X:Cx) (e:Expr) (t:TE):Prop where
 go:PE X e t
structure PAo (X:Cx) (es:List Expr) (t:TA):Prop where
 go:PA X es t
structure PSo (X:Cx) (st:Stmt) (t:TS):Prop where
 go:PS X st t
structure PSso (X:Cx) (sts:List Stmt) (t:TS):Prop where
 go:PSs X sts t
section
variable {X:Cx} {pos:Pos} {e a b:Expr} {es:List Expr} {te ta tb:TE} {t:TA} {st:Stmt} {rest:List Stmt} {ts us:TS}
theorem cO:PAo X [] qZ:=⟨aE⟩
theorem aQ (h:PEo X e te) (r:PAo X es t) (hs:starEach (e::es) X.env=(false,eval e X.env)::starEach es X.env):PAo X (e::es) (lZ te t):=⟨aA h.go r.go hs⟩
theorem fZ {i j}:PEo X (.Constant (.int i) j pos) (tC (.int i)):=⟨aH⟩
theorem tT {j}:PEo X (.Constant .none j pos) (tC .non):=⟨iR⟩
theorem dL {x j}:PEo X (.Constant (.str x) j pos) (tC (.str x)):=⟨iS⟩
theorem aAL:PEo X (.Dict [] [] pos) aBE:=⟨vK⟩
theorem eN {k} (h:PAo X es t):PEo X (.Tuple es k pos) (aCL t):=⟨eY h.go⟩
theorem mJ (h:PAo X es t):PEo X (.List es pos) (aCM t):=⟨dE h.go⟩
theorem pU {op:Operator} {r:R2} (ho:OpR X (binaryOp op) r) (ha:PEo X a ta) (hb:PEo X b tb):PEo X (.BinOp a op b pos) (tOp r ta tb):=⟨bB ho ha.go hb.go⟩
theorem gT (h:PSo X st ts):PSso X [st] ts:=⟨aL h.go⟩
theorem bG (h:PSo X st ts) (r:PSso X rest us):PSso X (st::rest) (uW ts us):=⟨aG h.go r.go⟩
theorem gK {i:Nat} {x:Str} {pos':Pos} (hN:X.N.Nodup) (hi:X.N[i]?=some x) (hx:Loc X.env.scope x) (he:PEo X e te) (hs:swapsWith e (some (.Name x pos')) pos.line X.env=pure false:=by rfl) (hf:X.fn x=true∨X.env.scope.names.lookup x=some .local:=by first | exact .inl rfl | exact .inr rfl | assumption) :
  PSo X (.Assign [.Name x pos'] e pos) (lB te (fU i)):=⟨aX hN hi hx he.go hs hf⟩
end
def tDt (K:PySem.W.Frag) (Z:List Addr) (S:St->Prop) (d:PyData):TE:=fun σ H Q=>S σ/\Fx Z H/\∀ v H',aF H H'->Den K (Vw Z H') d v->Q v H'
def tDA (K:PySem.W.Frag) (Z:List Addr) (S:St->Prop) (ds:List PyData):TA:=fun σ H Q=>S σ/\Fx Z H/\∀ vs H',aF H H'->aU K (Vw Z H') ds vs->Q vs H'
structure Dt (X:Cx) (K:PySem.W.Frag) (Z:List Addr) (S:St->Prop) (e:Expr) (d:PyData):Prop where
 go:PE X e (tDt K Z S d)
structure DA (X:Cx) (K:PySem.W.Frag) (Z:List Addr) (S:St->Prop) (es:List Expr) (ds:List PyData):Prop where
 go:PA X es (tDA K Z S ds)
section
variable {X:Cx} {K:PySem.W.Frag} {Z:List Addr} {S:St->Prop} {te:TE} {pos:Pos} {e a b:Expr} {es:List Expr} {d:PyData} {ds:List PyData}
theorem PE.imp {t t':TE} (h:PE X e t) (q:∀ σ H Q,t' σ H Q->t σ H Q):PE X e t':=fun pins s σ H Q I z=>h pins s σ H Q I (q σ H Q z)
theorem PA.imp {t t':TA} (h:PA X es t) (q:∀ σ H Q,t' σ H Q->t σ H Q):PA X es t':=fun pos pins s σ H Q I z=>h pos pins s σ H Q I (q σ H Q z)
theorem aI:DA X K Z S [] []:=⟨aE.imp fun σ H Q h=>h.2.2 [] H (aF.refl H) (aV.mpr rfl)⟩
theorem aB (h:Dt X K Z S e d) (r:DA X K Z S es ds) (hs:starEach (e::es) X.env=(false,eval e X.env)::starEach es X.env):DA X K Z S (e::es) (d::ds) :=
 ⟨(aA h.go r.go hs).imp fun σ H Q h=>⟨h.1,h.2.1,fun v H1 s1 hd=>⟨h.1,h.2.1.same s1,fun vs H2 s2 hds=>h.2.2 (v::vs) H2 (s1.trans s2) (aP.mpr ⟨v,vs,rfl,(Vw.same s2).den _ _ hd,hds⟩)⟩⟩⟩
theorem aR {i j}:Dt X K Z S (.Constant (.int i) j pos) (.int i):=⟨aH.imp fun σ H Q h=>h.2.2 _ H (aF.refl H) (bQ.mpr rfl)⟩
theorem vU {i j}:Dt X K Z S (.Constant (.bool i) j pos) (.bool i):=⟨eX.imp fun σ H Q h=>h.2.2 _ H (aF.refl H) (pG.mpr rfl)⟩
theorem lQ {j}:Dt X K Z S (.Constant .none j pos) .none:=⟨iR.imp fun σ H Q h=>h.2.2 _ H (aF.refl H) (gR.mpr rfl)⟩
theorem iZ {x j}:Dt X K Z S (.Constant (.str x) j pos) (.str x):=⟨iS.imp fun σ H Q h=>h.2.2 _ H (aF.refl H) (kW.mpr rfl)⟩
theorem pV {i j p}:Dt X K Z S (.UnaryOp .USub (.Constant (.int i) j p) pos) (.int (-i)):=⟨(rP mV aH).imp fun σ H Q h=>⟨i,rfl,h.2.2 _ H (aF.refl H) (bQ.mpr rfl)⟩⟩
theorem iM:Dt X K Z S (.Dict [] [] pos) (.dict []):=⟨vK.imp fun σ H Q h p hp=>h.2.2 _ _ (aF.new hp) (pH.mpr ⟨rfl,p,rfl,Vw.at h.2.1 hp⟩)⟩
theorem nE {vs:List V} {H:Hp} (h:aU K H ds vs) (hz:ds.length<=1000):vs.length<=sizeLine:=by rw [aN h,sizeLine_eq]; omega
theorem aM {k} (h:DA X K Z S es ds) (hz:ds.length<=1000:=by decide):Dt X K Z S (.Tuple es k pos) (.tuple ds) :=
 ⟨(eY h.go).imp fun σ H Q h=>⟨h.1,h.2.1,fun vs H1 s1 hds=>⟨nE hds hz,fun p hp=>h.2.2 _ _ (s1.trans (aF.new hp)) (bE.mpr ⟨p,vs,rfl,SqT.of (Vw.at (h.2.1.same s1) hp),(Vw.same (aF.new hp)).denAll _ _ hds⟩)⟩⟩⟩
theorem nF (h:DA X K Z S es ds) (hz:ds.length<=1000:=by decide):Dt X K Z S (.List es pos) (.list ds) :=
 ⟨(dE h.go).imp fun σ H Q h=>⟨h.1,h.2.1,fun vs H1 s1 hds=>⟨nE hds hz,fun p hp=>h.2.2 _ _ (s1.trans (aF.new hp)) (gS.mpr ⟨p,vs,rfl,SqL.of (Vw.at (h.2.1.same s1) hp),(Vw.same (aF.new hp)).denAll _ _ hds⟩)⟩⟩⟩
theorem pW {H:Hp} {xs:List V} (h:aU K H ds xs):∀ n,aU K H (List.replicate n ds).flatten (List.replicate n xs).flatten
 | 0=>aV.mpr rfl
 | n+1=>by
  rw [Xd,Xd,Xr,Xr]
  exact aY h (pW h n)
theorem aEx {n:Int} {j} {p2:Pos} (hK:X.K=K) (h:Dt X K Z S e (.tuple ds)) (h1:1 < n:=by decide) (h2:n<=1000:=by decide) (hz:ds.length<=1000:=by decide):Dt X K Z S (.BinOp e .Mult (.Constant (.int n) j p2) pos) (.tuple (List.replicate n.toNat ds).flatten) :=
 ⟨(bB (zP hK) h.go aH).imp fun σ H Q h=>⟨h.1,h.2.1,fun v H1 s1 hd=>by
  obtain ⟨a,xs,rfl,ha,hds⟩:=bE.mp hd
  refine ⟨a,n,xs,rfl,rfl,Vw.sub.seqT ha,h1,h2,by rw [aN hds]; exact hz,fun p H' s2 hq=>h.2.2 _ _ (s1.trans s2) (bE.mpr ⟨p,_,rfl,(h.2.1.same (s1.trans s2)).seqT hq,pW ((Vw.same s2).denAll _ _ hds) _⟩)⟩⟩⟩
theorem tU {t:TE} {v:V} (h:PE X e t) (q:∀ σ H Q,S σ->Q v H->t σ H Q) (hd:∀ H,Den K H d v):Dt X K Z S e d:=⟨h.imp fun σ H Q z=>q σ H Q z.1 (z.2.2 v H (aF.refl H) (hd _))⟩
def tLs (K:PySem.W.Frag) (Z:List Addr) (S:St->Prop) (ds:List PyData):TE:=fun σ H Q=>S σ/\Fx Z H/\∀ p xs H',aF H H'->H p=none->H' p=some (.lst xs)->aU K (Vw Z H') ds xs->Q (.ref p) H'
theorem aEy (h:DA X K Z S es ds) (hz:ds.length<=1000:=by decide):PE X (.List es pos) (tLs K Z S ds) :=
 (dE h.go).imp fun σ H Q h=>⟨h.1,h.2.1,fun vs H1 s1 hds=>⟨nE hds hz,fun p hp=>h.2.2 p vs _ (s1.trans (aF.new hp)) (s1.free hp) aC ((Vw.same (aF.new hp)).denAll _ _ hds)⟩⟩
theorem PSso.ex {sts:List Stmt} {t:TS} {R:TS->Prop} (h:PSso X sts t) (r:R t):∃ t,PSs X sts t/\R t:=⟨t,h.go,r⟩
theorem hV (h:DA X K Z S es ds) (hz:ds.length<=1000):PEo X (.List es pos) (tLs K Z S ds):=⟨aEy h hz⟩
theorem sH {i:Nat} {x:Str} (h:PE X (.Name x pos) (jK i)):PEo X (.Name x pos) (jK i):=⟨h⟩
theorem aC6 (h:PEo X e te):PSo X (.Return (some e) pos) (aCH te):=⟨bA h.go⟩
end
section
variable {X:Cx} {tg l:Expr} {body:List Stmt} {tl:TE} {g:TG} {tb:TS} {pos:Pos}
theorem zU {es:List Expr} {p:Pos} {env:Env}:∀ x,foldedSetIterable (.List es p) env x=pure x:=fun _=>rfl
theorem nY (hp:PassesOwn (model X.prog X.w) X.A X.env X.xe) (hc:X.calm=true) (hl:PEo X l tl) (hg:PG X tg g) (hb:PSso X body tb) (hs:∀ x,foldedSetIterable l X.env x=pure x) :
  PSo X (.For tg l body [] pos) (aE6 (aDK X.K tl) g tb):=⟨eP hp hc (kR hl.go) hg hb.go hs⟩
end
theorem tV {K:PySem.W.Frag} {H:Hp}:∀ {xs:List V},(∀ x∈xs,∃ d,Den K H d x)->∃ ds,aU K H ds xs
 | [],_=>⟨[],aV.mpr rfl⟩
 | x::r,h=>by
  obtain ⟨d,hd⟩:=h x (Qo ..)
  obtain ⟨ds,hds⟩:=tV (xs:=r) fun y hy=>h y (Qm _ hy)
  exact ⟨d::ds,aP.mpr ⟨x,r,rfl,hd,hds⟩⟩
theorem vV {K:PySem.W.Frag} {H:Hp} {ds:List PyData} {xs:List V} (h:aU K H ds xs):∀ x∈xs,∃ d,Den K H d x:=fun x hx=>by
 obtain ⟨i,hi⟩:=Ji.mp hx
 obtain ⟨d,_,hd⟩:=cC h hi
 exact ⟨d,hd⟩
def vW (e:DictEntry):Bool:=match e.key with
 | .str _ _=>true
 | _=>false
def ecB (K:PySem.W.Frag) (C:Addr) (bm:List Value):Bool:=match K.lookup C with
 | some ⟨.type "type", _, .cls cd, sl⟩ => (match sl.toList with
   | [_, _, _, _, some (.builtin n), _] => n == "ValueError.__new__" && cd.mro == .ref C :: bm && !cd.hasDel && (match K.lookup cd.ns with
     | some ⟨_,_,.dict es _,_⟩=>es.toList.all vW && qns.all (fun n=>(es.toList.find? (·.key.isStr n)).isNone)
     | _=>false)
   | _=>false)
 | _=>false
theorem aBL {K:PySem.W.Frag} {h:Heap} {C:Addr} {bm:List Value} (X:K.In h) (q:ecB K C bm=true):∃ N nm qn bs hdct sn sub ab col dd k0 k1 k2 k3 k5 mN,
  h.get? C=some (excClassObj nm qn C N bs bm hdct sn sub ab col dd k0 k1 k2 k3 k5 "ValueError.__new__")/\h.Ns N mN/\∀ n∈qns,mN n=none:=by
 unfold ecB at q
 split at q
 ·rename_i dd cd sl ho
  split at q
  ·rename_i k0 k1 k2 k3 n k5 hs
   split at q
   ·rename_i c1 d1 es ep s1 hN
    simp only [Qv,beq_iff_eq,Bool.not_eq_true',Ja,Option.isNone_iff_eq_none] at q
    obtain ⟨⟨⟨rfl,hm⟩,hdel⟩,hk,hq⟩:=q
    obtain ⟨nm,bs,mro,ns,qn,hd,sn,sub,ab,col,del⟩:=cd
    dsimp only at hm hdel hN
    subst hm hdel
    have hsl:sl = #[k0,k1,k2,k3,some (.builtin "ValueError.__new__"),k5]:=by
     obtain ⟨l⟩:=sl
     simp only at hs
     rw [hs]
    subst hsl
    refine ⟨ns,nm,qn,bs,hd,sn,sub,ab,col,dd,k0,k1,k2,k3,k5,nsFind es,X _ _ ho,⟨_,es,ep,X _ _ hN,rfl,fun e he=>?_,fun _=>rfl⟩,fun n hn=>?_⟩
    ·have:=hk e (Array.mem_toList_iff.mpr he)
     unfold vW at this
     split at this
     ·rename_i a b e; exact ⟨a,b,e⟩
     ·cases this
    ·have:=hq n hn
     unfold nsFind findBy
     rw [<- Array.find?_toList,this]
     rfl
   ·simp at q
  ·cases q
 ·cases q
theorem aBM {K:PySem.W.Frag} {C:Addr} (q:ecB K C vbm=true) (h:Heap) (X:K.In h):EcH h C vbm:=by
 obtain ⟨N,nm,qn,bs,hdct,sn,sub,ab,col,dd,k0,k1,k2,k3,k5,mN,h1,h2,h3⟩:=aBL X q
 exact ⟨N,nm,qn,bs,hdct,sn,sub,ab,col,dd,k0,k1,k2,k3,k5,mN,h1,h2,h3,.base⟩
theorem fL {K:PySem.W.Frag} {C D:Addr} (qD:ecB K D vbm=true) (q:ecB K C (.ref D::vbm)=true) (h:Heap) (X:K.In h):EcH h C (.ref D::vbm):=by
 obtain ⟨N,nm,qn,bs,hdct,sn,sub,ab,col,dd,k0,k1,k2,k3,k5,mN,h1,h2,h3⟩:=aBL X q
 obtain ⟨_,_,_,_,_,_,_,_,_,_,_,_,_,_,_,mD,e1,e2,e3⟩:=aBL X qD
 exact ⟨N,nm,qn,bs,hdct,sn,sub,ab,col,dd,k0,k1,k2,k3,k5,mN,h1,h2,h3,.own e1 e2 e3 .base⟩
section
variable {prog:Program} {w:World} {A:Around} {E:Value->Shared->Prop} {s:Shared}
end
section
variable {X:Cx}
end
section
variable {prog:Program} {w:World} {A:Around} {E:Value->Shared->Prop} {s:Shared} {e it l:Addr} {n:Nat} {P:Nat->Value->Prop} {st:Nat->Heap->Prop}
theorem aBN {i:Nat} {old:Value} {Q:Value->Shared->Prop} (S:Sub prog w it l n P st) (hei:e≠it) (hel:l≠e) (he:IsEnum s.heap e it i old) (h1:st i s.heap) (hi:i < n)
  (hQ:∀ h' x tk,P i x->IsEnumOut h' e it ((i:Int)+1) x s.heap.objs.size->st (i+1) h'->h'.get? s.heap.objs.size=some { cls:=.type "tuple",data:=.seq #[.int i tk,x] } ->
   (∀ c o,c≠e->c≠it->s.heap.get? c=some o->h'.get? c=some o)->Q (.ref s.heap.objs.size) { s with heap:=h',toks:=s.toks+1 }) :
  wpAny (model prog w) A (Builtin.«enumerate.__next__» ⟨[.ref e],[]⟩) (fun fin s'=>∃ v,fin=.done (.ret v)/\Q v s') E s:=by
 refine wpAny_bind (m:=field (.ref e) 2) (wpAny_field he rfl (x:=.ref it) rfl ?_)
 refine wpAny_bind (m:=Builtin.SmallTypes.nextOf (.ref it)) (S.item _ i _ _ _ hi h1 fun x g1 px t1 b1=>?_)
 have e1:IsEnum g1 e it i old:=b1.extBut _ _ hei he
 refine wpAny_bind (m:=field (.ref e) 3) (wpAny_field e1 rfl (x:=rawInt i) rfl ?_)
 refine wpAny_bind (m:=field (.ref e) 4) (wpAny_field e1 rfl (x:=.none) rfl ?_)
 refine wpAny_bind (m:=mkInt i) (wpAny_mkInt ?_)
 refine wpAny_bind (m:=setField (.ref e) 3 (rawInt ((i:Int)+1))) (wpAny_setField_rec e1 (by simp) fun g2 e2 b2=>?_)
 have e2':IsEnum g2 e it ((i:Int)+1) old:=e2
 refine wpAny_bind (m:=setField (.ref e) 4 .none) (wpAny_setField_rec e2' (by simp) fun g3 e3 b3=>?_)
 have e3':IsEnum g3 e it ((i:Int)+1) old:=e3
 refine wpAny_bind (m:=newTuple [.int i s.toks,x]) (wpAny_newTuple ?_)
 have sz:g3.objs.size=s.heap.objs.size:=by rw [b3.1,b2.1,b1.1]
 have e4:IsEnum (g3.push { cls:=.type "tuple",data:=.seq #[.int i s.toks,x] }) e it ((i:Int)+1) old:=Qa _ e3'
 have T4:(g3.push { cls:=.type "tuple",data:=.seq #[.int i s.toks,x] }).get? s.heap.objs.size=some { cls:=.type "tuple",data:=.seq #[.int i s.toks,x] }:=by rw [<- sz]; exact Qe _ rfl
 have kp4:∀ c o,c≠e->c≠it->s.heap.get? c=some o->(g3.push { cls:=.type "tuple",data:=.seq #[.int i s.toks,x] }).get? c=some o:=fun c o c1 c2 q =>
  Qa _ (b3.extBut _ _ c1 (b2.extBut _ _ c1 (b1.extBut _ _ c2 q)))
 have t4:st (i+1) (g3.push { cls:=.type "tuple",data:=.seq #[.int i s.toks,x] }):=S.keep _ _ _ t1 fun c hc o q=>by
  have c1:c≠e:=by rcases hc with r | r <;> rw [r]; exact Ne.symm hei; exact hel
  exact Qa _ (b3.extBut _ _ c1 (b2.extBut _ _ c1 q))
 have elt:s.heap.objs.size≠e:=Jv (Ql he)
 rw [sz]
 generalize g3.push { cls:=.type "tuple",data:=.seq #[.int i s.toks,x] }=g4 at e4 T4 kp4 t4 ⊢
 refine wpAny_bind (m:=Builtin.SmallTypes.ownedTupleIsFree (.ref e)) ?_
 unfold Builtin.SmallTypes.ownedTupleIsFree
 refine wpAny_bind (wpAny_field e4 rfl (x:=.none) rfl (wpAny_pure ?_))
 simp only [if_true]
 refine wpAny_bind (wpAny_rule ?_)
 refine wpAny_bind (wpAny_field e4 rfl (x:=old) rfl ?_)
 refine wpAny_bind (wpAny_setField_rec e4 (by simp) fun g5 e5 b5=>?_)
 have e5':IsEnum g5 e it ((i:Int)+1) x:=e5
 refine wpAny_bind (m:=Builtin.SmallTypes.ownedTupleHandOut (.ref e) (.ref s.heap.objs.size)) ?_
 unfold Builtin.SmallTypes.ownedTupleHandOut
 refine wpAny_bind (wpAny_setField_rec e5' (by simp) fun g6 e6 b6=>?_)
 have e6':IsEnumOut g6 e it ((i:Int)+1) x s.heap.objs.size:=e6
 refine wpAny_setField_rec e6' (by simp) fun g7 e7 b7=>?_
 have e7':IsEnumOut g7 e it ((i:Int)+1) x s.heap.objs.size:=e7
 have up:∀ c o,c≠e->g4.get? c=some o->g7.get? c=some o:=fun c o c1 q=>b7.extBut _ _ c1 (b6.extBut _ _ c1 (b5.extBut _ _ c1 q))
 refine wpAny_bind (wpAny_letGo (wpAny_pure ⟨_,rfl,hQ g7 x s.toks px e7' ?_ (up _ _ elt T4) fun c o c1 c2 q=>up c o c1 (kp4 c o c1 c2 q)⟩))
 exact S.keep _ _ _ t4 fun c hc o q=>up c o (by rcases hc with r | r <;> rw [r]; exact Ne.symm hei; exact hel) q
theorem aC7 {old:Value} {Q:Fin->Shared->Prop} (hh:A.handled=none) (S:Sub prog w it l n P st) (he:IsEnum s.heap e it n old) (h1:st n s.heap)
  (hE:∀ h' x,Heap.ExtBut it s.heap h'->(∃ o,h'.get? x=some o/\o.cls=.type "StopIteration")->E (.ref x) { s with heap:=h' }) :
  wpAny (model prog w) A (Builtin.«enumerate.__next__» ⟨[.ref e],[]⟩) Q E s:=by
 refine wpAny_bind (m:=field (.ref e) 2) (wpAny_field he rfl (x:=.ref it) rfl ?_)
 exact wpAny_bind (m:=Builtin.SmallTypes.nextOf (.ref it)) (S.done _ _ _ _ hh h1 hE)
end
def Ite (K:PySem.W.Frag) (k:Sk) (a:Addr):It :=
 ⟨fun i H => ∃ xs x, SqK k K H a xs /\ xs[i]? = some x,
  fun i H v H'=>∃ p,H p=none/\v=.ref p/\∀ xs,SqK k K H a xs->∃ x,xs[i]?=some x/\H'=upd H p (.tup [.int (i:Nat),x]),
  fun i H=>∃ xs,SqK k K H a xs/\xs.length=i⟩
theorem aAM {P:Program} {w:World} {K:PySem.W.Frag} {es:List Expr} {x1} {pos:Pos} (k:Sk) (a e it:Addr) (hei:e≠it) :
  Turn P w K (.Tuple es x1 pos) (Ite K k a) [e,it] e (fun i h=>(∃ old,IsEnum h e it i old)/\ItK k h it a i) where
 mem:=by simp
 obj:=fun i h st c hc=>by
  obtain ⟨⟨old,he⟩,h1⟩:=st
  simp only [Qk,Qn,or_false] at hc
  rcases hc with rfl | rfl
  ·exact ⟨_,he,fun v q=>by cases q⟩
  ·exact h1.obj
 keep:=fun i h h' st kp=>by
  obtain ⟨⟨old,he⟩,h1⟩:=st
  exact ⟨⟨old,kp e (by simp) _ he⟩,h1.at fun o q=>kp it (by simp) o q⟩
 item:=by
  intro X hP hw hK hc i pins s σ H E I hf st hg
  subst hP hw hK
  obtain ⟨⟨old,he⟩,h1⟩:=st
  obtain ⟨xs,x,ha,hx⟩:=hg
  obtain ⟨its,rv,pa⟩:=I.seqK ha
  obtain ⟨u,hu,ru⟩:=rv.get hx
  have na:∀ c∈[e,it],a≠c:=fun c hc'=>I.seq_ne ha (hf c hc')
  have hT:s.TypeIs (.ref e) "enumerate" := ⟨_,he,rfl⟩
  have hi1:i < its.toArray.size:=by rw [Qg]; exact (Qc.mp hu).1
  unfold pyNext
  refine wpAny_bind (wpAny_attempt (wpAny_callSpecial?_slot (name:=Str.ofString "__next__") hT PySem.F.slot_enumerate_next (wpAny_call_entry PySem.F.slot_enumerate_next hT PySem.F.entry_enumerate_next
   (aBN (rC k X.prog X.w it a its.toArray (na it (by simp))) hei (na e (by simp)) he ⟨h1,pa⟩ hi1 fun h' u' tk pu he' s1 hT' kp=>wpAny_pure ?_) (PySem.F.args_enumerate_next_1 _))))
  have eu:u'=u:=by
   have q:its[i]?=some u':=by simpa using pu
   rw [hu] at q
   exact (Option.some.inj q).symm
  subst eu
  refine ⟨_,rfl,wpAny_letOwnedTupleGo_enum he' fun h2 he2 sb2=>?_⟩
  have Te:s.heap.objs.size≠e:=Jv (Ql he)
  have hT2:h2.get? s.heap.objs.size=some { cls:=.type "tuple",data:=.seq #[.int i tk,u'] }:=sb2.extBut _ _ Te hT'
  have hf0:=I.hok.fresh (Qi s.heap.objs.size)
  have fz:=I.fpOk (Qi s.heap.objs.size) hf0
  have I2:Inv X pins σ H { s with heap:=h2,toks:=s.toks+1 }:=by
   refine I.turnedL (t':=s.toks+1) [e,it] (fun c o hc' q=>?_) hf
   simp only [Qk,Qn,or_false,not_or] at hc'
   exact sb2.extBut _ _ hc'.1 (kp c o hc'.1 hc'.2 q)
  have I3:Inv X pins σ (upd H s.heap.objs.size (.tup [.int (i:Nat),x])) { s with heap:=h2,toks:=s.toks+1 }:=by
   refine I2.trackO (show bL X.prog X.w _ _ _ (.tup [.int (i:Nat),x]) from ⟨by show 2<=sizeLine; rw [sizeLine_eq]; decide,[.int i tk,u'],0,.cons ⟨tk,rfl⟩ (.cons ru .nil),hT2⟩) hf0 fz.2.1 I.sz fz.2.2.2.2.1 fz.2.2.2.2.2
  refine ⟨.ref s.heap.objs.size,_,I3,rfl,⟨s.heap.objs.size,hf0,rfl,fun xs' ha'=>?_⟩,⟨⟨_,by simpa using he2⟩,s1.1.at fun o q=>sb2.extBut _ _ (Ne.symm hei) q⟩,fun c hc'=>?_⟩
  ·rw [I.seqK_inj ha' ha]
   exact ⟨x,hx,rfl⟩
  ·have cl:c≠s.heap.objs.size:=by
    obtain ⟨o,q⟩:∃ o,s.heap.get? c=some o:=by
     simp only [Qk,Qn,or_false] at hc'
     rcases hc' with rfl | rfl
     ·exact ⟨_,he⟩
     ·obtain ⟨o,q,_⟩:=h1.obj; exact ⟨o,q⟩
    exact Qt (Ql q)
   rw [aK cl]
   exact (hf c hc').1
 done:=by
  intro X hP hw hK hc i pins s σ H E I hf st hg
  subst hP hw hK
  obtain ⟨⟨old,he⟩,h1⟩:=st
  obtain ⟨xs,ha,hlen⟩:=hg
  obtain ⟨its,rv,pa⟩:=I.seqK ha
  have la:=rv.length
  have na:∀ c∈[e,it],a≠c:=fun c hc'=>I.seq_ne ha (hf c hc')
  have hT:s.TypeIs (.ref e) "enumerate" := ⟨_,he,rfl⟩
  have ei:i=its.toArray.size:=by rw [Qg]; omega
  subst ei
  unfold pyNext
  refine wpAny_bind (wpAny_attempt (wpAny_callSpecial?_slot (name:=Str.ofString "__next__") hT PySem.F.slot_enumerate_next (wpAny_call_entry PySem.F.slot_enumerate_next hT PySem.F.entry_enumerate_next
   (aC7 (I.ok.hd hc) (rC k X.prog X.w it a its.toArray (na it (by simp))) he ⟨h1,pa⟩ fun h' x kp hx=>?_) (PySem.F.args_enumerate_next_1 _))))
  obtain ⟨oe,hoe,hce⟩:=hx
  refine wpAny_bind (wpAny_isInstance (T := "StopIteration") (b:=true) ⟨oe,hoe,hce⟩ isSubtype_stop (wpAny_pure ⟨rfl,?_⟩))
  refine I.turnedL (t':=s.toks) [e,it] (fun c o hc' q=>?_) hf
  simp only [Qk,Qn,or_false,not_or] at hc'
  exact kp c o hc'.2 q
 self:=fun _ _ _ _ _ st h=>by
  obtain ⟨⟨old,he⟩,_⟩:=st
  exact wpAny_pyIter_enum he h
theorem aAN (k:Sk) (a:Addr) (xs:Array Value) :
  Meets (Builtin.«enumerate.__new__» ⟨[.type "enumerate",.ref a],[]⟩) (fun _ R s=>AtK k s.heap a xs /\
   R (.ok (.ret (.ref (s.heap.push (itK k a)).objs.size))) { s with heap:=(s.heap.push (itK k a)).push { cls:=.type "enumerate",data:=.fields #[.none,.bool false,.ref s.heap.objs.size,rawInt 0,.none,.none] } }) :=
 .of_wp fun prog w A R s h=>by
  obtain ⟨hp,g,d,tk,os⟩:=s
  obtain ⟨hl,h⟩:=h
  have hsub:=sub_enumerate
  have hA:AtK k (Shared.heap ⟨hp,g,d,tk,os⟩) a xs:=hl
  obtain ⟨o,ho,hc⟩:∃ o,hp.get? a=some o/\(o.cls=.type "list" ∨ o.cls=.type "tuple"):=by
   cases k
   ·obtain ⟨o,e,c,_⟩:=hl; exact ⟨o,e,.inl c⟩
   ·obtain ⟨o,e,c,_⟩:=hl; exact ⟨o,e,.inr c⟩
  have hoL:(Shared.heap ⟨hp,g,d,tk,os⟩).get? a=some o:=ho
  wp_walk using AutoSeq1.wpAny_loadPart' hoL
  refine wpAny_stack_any fun st=>wpAny_pure ?_
  split
  ·rename_i c _ _ _ _ _
   cases (c==Value.type "enumerate")
   ·wp_walk using AutoSeq1.wpAny_loadPart' hoL,vH hA
    exact ⟨_,rfl,h⟩
   ·wp_walk using AutoSeq1.wpAny_loadPart' hoL,vH hA
    exact ⟨_,rfl,h⟩
  ·wp_walk using AutoSeq1.wpAny_loadPart' hoL,vH hA
   exact ⟨_,rfl,h⟩
section
variable {X:Cx} {es:List Expr} {x1:Nat} {tpos:Pos}
def aFm (K:PySem.W.Frag) (k:Sk) (ta:TA):TI:=fun σ H R=>ta σ H fun vs H1=>∃ a xs,vs = [.ref a]/\SqK k K H1 a xs/\R (Ite K k a) H1
theorem aC8 (k:Sk) {a:Expr} {ta:TA} {p pos:Pos} (hg:Gl X "enumerate") (hm:X.mg "enumerate" = none) (ha:PA X [a] ta) (hs:starEach [a] X.env = [(false,eval a X.env)]:=by rfl) :
  PI X (.Tuple es x1 tpos) (.Call (.Name "enumerate" p) [a] [] pos) (aFm X.K k ta):=by
 intro pins s σ H R I h
 refine Call_ (iB (u:=.type "enumerate") I hg hm (by decide +kernel) (PyProof.Rows.callWith_type1 (thn (ha pos pins s σ H _ I h) fun us s1 hx9=>?_) hs rfl))
 obtain ⟨vs,H1,I1,r1,q1⟩:=hx9
 obtain ⟨l,xs,rfl,hA,q⟩:=q1
 obtain ⟨u1,rfl,r1'⟩:=gG r1
 cases r1'
 obtain ⟨its,rv,pa⟩:=I1.seqK hA
 refine callType_new PySem.F.called_enumerate (by decide) (PySem.F.typeCall_enumerate_1 _) (PySem.F.newCall_enumerate_1 _) (fun obj=>PySem.F.args_object_init_2 obj _) PySem.F.entry_enumerate_new (aAN k l its.toArray) ⟨pa,?_⟩
 have n1:(s1.heap.push (itK k l)).objs.size=s1.heap.objs.size+1:=Qz ..
 have g2:IsEnum ((s1.heap.push (itK k l)).push { cls:=.type "enumerate",data:=.fields #[.none,.bool false,.ref s1.heap.objs.size,rawInt 0,.none,.none] }) (s1.heap.push (itK k l)).objs.size s1.heap.objs.size 0 .none:=Qe _ rfl
 have g1:ItK k ((s1.heap.push (itK k l)).push { cls:=.type "enumerate",data:=.fields #[.none,.bool false,.ref s1.heap.objs.size,rawInt 0,.none,.none] }) s1.heap.objs.size l 0:=(ItK.new k s1.heap l).at fun o e=>Qa _ e
 have kp:∀ c o,s1.heap.get? c=some o->((s1.heap.push (itK k l)).push { cls:=.type "enumerate",data:=.fields #[.none,.bool false,.ref s1.heap.objs.size,rawInt 0,.none,.none] }).get? c=some o:=fun c o e=>Qa _ (Qa _ e)
 generalize (s1.heap.push (itK k l)).push { cls:=.type "enumerate",data:=.fields #[.none,.bool false,.ref s1.heap.objs.size,rawInt 0,.none,.none] }=h2 at g1 g2 kp ⊢
 refine ⟨⟨_,g2,rfl⟩,wpAny_pyIter_enum g2 ?_⟩
 rw [n1] at *
 have I2:Inv X pins σ H1 { s1 with heap:=h2 }:=I1.kept (t':=s1.toks) kp
 refine ⟨s1.heap.objs.size+1,[s1.heap.objs.size+1,s1.heap.objs.size],_,_,H1,rfl,I2,aAM k l (s1.heap.objs.size+1) s1.heap.objs.size (Nat.succ_ne_self _),⟨⟨_,g2⟩,g1⟩,fun c hc=>?_,q⟩
 have hc':s1.heap.objs.size<=c:=by
  simp only [Qk,Qn,or_false] at hc
  rcases hc with r | r
  ·rw [r]; exact Xo _ _
  ·rw [r]; exact Qi _
 exact I1.fpOk hc' (I1.hok.fresh hc')
end
theorem aEz {n:Nat} (h:n<=1000):n<=sizeLine:=by rw [sizeLine_eq]; omega
section
variable {own:Nat} {fr:List Nat} {g:TG} {te:TE} {σ:St} {H:Hp} {Qf:Hp->List V->Prop} {K:PySem.W.Frag}
theorem aC9 {vs:List V} {i:Nat} {v:V} (h:vs[i]?=some v):vs.take (i+1)=vs.take i++[v]:=by rw [Jz,h]; rfl
theorem zV {J:It} {n:Nat} {vs:List V} (SH:St->Prop) (hn:n<=1000) (hl:vs.length=n) (hσ:SH (blk own fr σ)) (hstop:∀ H',aF H H'->J.stop n H') (hgo:∀ i H',i < n->aF H H'->J.go i H')
  (hs:∀ i v x σ H1 H2,i < n->vs[i]?=some v->SH σ->aF H H1->J.yld i H1 x H2->∀ Q:V->St->Hp->Prop,(∀ σ2 H4,SH σ2->aF H1 H4->Q v σ2 H4)->g x σ H2 fun σ2 H3=>te σ2 H3 fun y H4=>Q y σ2 H4)
  (hd:∀ H',aF H H'->Qf H' vs) :
  ∃ W:Nat->Nat->List V->St->Hp->Prop,(∃ m,W 0 m [] (blk own fr σ) H)/\∀ i m ys σ' H,W i m ys σ' H ->
   (J.stop i H/\Qf H ys) ∨
   (J.go i H/\∃ N:List V->St->Hp->Prop,(∀ ys' σ2 H2,N ys' σ2 H2->∃ m',m' < m/\W (i+1) m' ys' σ2 H2) /\
    ∀ x H',J.yld i H x H'->g x σ' H' fun σ2 H2=>aBs σ2 H2 fun b H3=>if b=true then te σ2 H3 fun y H4=>ys.length < sizeLine/\N (ys++[y]) σ2 H4 else N ys σ2 H3):=by
 refine mH n (aEz hn) SH (fun i ys H'=>ys=vs.take i/\aF H H') hσ ⟨rfl,aF.refl H⟩ (fun i ys H' p=>by rw [p.1,Jd]; omega) (fun ys H' p=>hstop H' p.2) (fun i ys H' hi p=>hgo i H' hi p.2) ?_ (fun ys H' p=>?_)
 ·rintro i ys σ' x H1 H2 hi sh ⟨rfl,s1⟩ hy hz
  have hv:vs[i]?=some vs[i]:=Qd (by omega)
  have h:=hs i vs[i] x σ' H1 H2 hi hv sh s1 hy (fun y σ2 H4=>(vs.take i).length < sizeLine/\SH σ2/\(vs.take i++[y]=vs.take (i+1)/\aF H H4)) fun σ2 H4 sh2 s4=>⟨hz,sh2,(aC9 hv).symm,s1.trans s4⟩
  exact h
 ·obtain ⟨rfl,s1⟩:=p
  rw [Jn (by omega)]
  exact hd H' s1
theorem kE {a:Addr} {xs vs:List V} (SH:St->Prop) (hn:xs.length<=1000) (hl:vs.length=xs.length) (ha:SqT K H a xs) (hσ:SH (blk own fr σ))
  (hs:∀ (i:Nat) x v σ H1,xs[i]?=some x->vs[i]?=some v->SH σ->aF H H1->∀ Q:V->St->Hp->Prop,(∀ σ2 H4,SH σ2->aF H1 H4->Q v σ2 H4)->g x σ H1 fun σ2 H2=>te σ2 H2 fun y H4=>Q y σ2 H4)
  (hd:∀ H',aF H H'->Qf H' vs) :
  ∃ W:Nat->Nat->List V->St->Hp->Prop,(∃ m,W 0 m [] (blk own fr σ) H)/\∀ i m ys σ' H,W i m ys σ' H ->
   ((Itt K a).stop i H/\Qf H ys) ∨
   ((Itt K a).go i H/\∃ N:List V->St->Hp->Prop,(∀ ys' σ2 H2,N ys' σ2 H2->∃ m',m' < m/\W (i+1) m' ys' σ2 H2) /\
    ∀ x H',(Itt K a).yld i H x H'->g x σ' H' fun σ2 H2=>aBs σ2 H2 fun b H3=>if b=true then te σ2 H3 fun y H4=>ys.length < sizeLine/\N (ys++[y]) σ2 H4 else N ys σ2 H3):=by
 refine zV SH hn hl hσ (fun H' s=>⟨xs,s.seqT ha,Qi _⟩) (fun i H' hi s=>⟨xs,xs[i],s.seqT ha,Qd hi⟩) (fun i v x σ H1 H2 hi hv sh s y Q k=>?_) hd
 obtain ⟨e,y⟩:=y
 subst e
 exact hs i x v σ _ (y xs (s.seqT ha)) hv sh s Q k
end
section
variable {X:Cx} {st:Stmt} {rest:List Stmt} {t u:TS} {e:Expr} {te:TE} {tt:TT}
end
section
variable {X:Cx} {K:PySem.W.Frag}
end
theorem rG (xs:Array Value):slicePick xs none none (some (-1))=xs.toList.reverse.toArray:=by
 unfold slicePick
 have e1:sliceBounds none none (some (-1)) xs.size=((xs.size:Int) - 1,-1,-1):=by simp [sliceBounds]
 rw [e1,<- aBF xs]
 congr 1
 show List.filterMap (fun x=>xs[x]?) (sliceRange ((xs.size:Int) - 1) (-1) (-1))=_
 have e2:sliceRange ((xs.size:Int) - 1) (-1) (-1)=(List.range xs.size).map fun (k:Nat)=>((xs.size:Int) - 1+(k:Int)*(-1)).toNat:=by
  unfold sliceRange
  rw [if_neg (by decide)]
  have e3:(if (xs.size:Int) - 1 > -1 then ((xs.size:Int) - 1 - -1 - -1 - 1) / (- -1) else 0).toNat=xs.size:=by
   by_cases h0:xs.size=0
   ·rw [h0]; decide
   ·rw [if_pos (by omega),show (- -1:Int)=1 from rfl,Int.ediv_one]; omega
  show (List.range (if (xs.size:Int) - 1 > -1 then ((xs.size:Int) - 1 - -1 - -1 - 1) / (- -1) else 0).toNat).map _=_
  rw [e3]
  refine Zs fun k _=>?_
  congr 1
  omega
 rw [e2,Yx]
 rfl
section
variable {X:Cx}
def aFn (K:PySem.W.Frag) (te ts:TE):TE:=fun σ H Q=>te σ H fun x H1=>ts σ H1 fun y H2=>y=.int (-1)/\∃ a xs,x=.ref a/\SqL K H2 a xs/\∀ p,H2 p=none->Q (.ref p) (upd H2 p (.lst xs.reverse))
theorem aDa {e st:Expr} {te ts:TE} {pos p2:Pos} (he:PE X e te) (hst:PE X st ts):PE X (.Subscript e (.Slice none none (some st) p2) pos) (aFn X.K te ts):=by
 intro pins s σ H Q I h
 refine Subscript_ (thn (he pins s σ H _ I h) fun v s1 hx9=>?_)
 obtain ⟨x,H1,I1,r1,q1⟩:=hx9
 refine wpAny_Slice ?_
 rw [evalPart_none]
 refine wpAny_pure ?_
 show wpAny _ _ (evalPart none X.env) _ _ s1
 rw [evalPart_none]
 refine wpAny_pure ?_
 show wpAny _ _ (evalPart (some st) X.env) _ _ s1
 rw [evalPart_some]
 refine thn (hst pins s1 σ H1 _ I1 q1) fun vst s3 hx9=>?_
 obtain ⟨y,H3,I3,r3,q3⟩:=hx9
 obtain ⟨rfl,a,xs,rfl,hx,q⟩:=q3
 obtain ⟨tk,rfl⟩:=r3
 cases r1
 have I4:Inv X pins σ H3 { s3 with heap:=s3.heap.push { cls:=.type "slice",data:=.fields #[.none,.none,.int (-1) tk] } }:=I3.kept (t':=s3.toks) fun b ob q=>Qa _ q
 obtain ⟨its,r,ht,hz⟩:=I4.list hx
 have hlen:=r.length
 have hg:wpAny (model X.prog X.w) X.A (getItem (.ref a) (.ref s3.heap.objs.size)) (EP X pins σ Q) X.xe { s3 with heap:=s3.heap.push { cls:=.type "slice",data:=.fields #[.none,.none,.int (-1) tk] } }:=by
  refine wpAny_getItem_list_slice ht.isList (Heap.IsSliceOf.new ..) .none .none (.int (-1) tk) (by decide) ?_ (by rw [Qg]; omega)
  rw [rG]
  refine ⟨.ref _,_,I4.laid (t':=s3.toks) (o:=.lst xs.reverse) (fun b ob q=>Qa _ q) (Qi _) ?_,rfl,q _ (I4.hok.fresh (Qi _))⟩
  exact ⟨by rw [Yu]; exact hz,its.reverse,0,r.reverse,Qe _ rfl⟩
 show wpAny (model X.prog X.w) X.A (subscriptTail e (.Slice none none (some st) p2) (.ref a) (.ref s3.heap.objs.size)) (EP X pins σ Q) X.xe { s3 with heap:=s3.heap.push { cls:=.type "slice",data:=.fields #[.none,.none,.int (-1) tk] } }
 exact tail_any (ops:=[.ref a,.ref s3.heap.objs.size]) ht.isList.typeIs slot_list_getitem.lookup hg (by with_unfolding_all rfl)
end
section
variable {K:PySem.W.Frag} {S:List Addr} {H H' H0:Hp} {E E':Hp->V->Prop} {σ:St} {te ta tb ts:TE} {t tr:TA} {tl th:TO}
instance {a:Addr} {xs:List V}:Mo (fun H v=>v=.ref a/\SqT K (Vw S H) a xs):=⟨fun e h=>⟨h.1,(Vw.same e).seqT h.2⟩⟩
end
section
variable {prog:Program} {w:World} {A:Around} {R:Result->Shared->Prop} {s:Shared} {elt tg iter tg2 iter2:Expr} {scope:Scope} {pos:Pos} {it acc:Value} {env:Env}
end
section
variable {X:Cx} {scope:Scope} {own frn:List Str} {fr:List Nat} {elt tg iter tg2 iter2:Expr} {pos:Pos} {wi wi2:TI} {g g2:TG} {te:TE}
end
section
variable {own:Nat} {fr:List Nat} {g g2:TG} {wi2:TI} {te:TE} {σ:St} {H:Hp} {Qf:Hp->List V->Prop} {K:PySem.W.Frag}
end
section
variable {X:Cx}
end
section
variable {κ:Type} [DecidableEq κ]
def cW (kvs:List (κ×V)) (k:κ):Option V:=(kvs.find? fun kv=>decide (kv.1=k)).map (·.2)
def jA (kvs:List (κ×V)) (k:κ) (v:V):List (κ×V) :=
 if (kvs.any fun kv=>decide (kv.1=k))=true then kvs.map (fun kv=>if kv.1=k then (kv.1,v) else kv) else kvs++[(k,v)]
def aDO (kvs:List (κ×V)) (k:κ):List (κ×V):=kvs.filter fun kv=>decide (kv.1≠k)
theorem aBO {k:κ}:cW ([]:List (κ×V)) k=none:=rfl
theorem cY {p:κ×V} {r:List (κ×V)} {k:κ} (e:p.1=k):cW (p::r) k=some p.2:=by simp [cW,Za,e]
theorem dU {p:κ×V} {r:List (κ×V)} {k:κ} (e:¬ p.1=k):cW (p::r) k=cW r k:=by simp [cW,Za,e]
theorem gC (k:κ):∀ kvs:List (κ×V),(kvs.any fun kv=>decide (kv.1=k))=(cW kvs k).isSome
 | []=>rfl
 | p::r=>by
  rw [Zp]
  by_cases e:p.1=k
  ·simp only [cY e,decide_eq_true e,Bool.true_or,Option.isSome_some]
  ·rw [dU e,decide_eq_false e,Bool.false_or]; exact gC k r
theorem vX (k j:κ) (y:V):∀ kvs:List (κ×V),cW (kvs.map fun kv=>if kv.1=k then (kv.1,y) else kv) j=(cW kvs j).map fun x=>if j=k then y else x
 | []=>rfl
 | p::r=>by
  have ih:=vX k j y r
  rw [Qu]
  by_cases h:p.1=k
  ·rw [if_pos h]
   by_cases e:p.1=j
   ·rw [cY (p:=(p.1,y)) e,cY e,Xi,if_pos (e.symm.trans h)]
   ·rw [dU (p:=(p.1,y)) e,dU e,ih]
  ·rw [if_neg h]
   by_cases e:p.1=j
   ·rw [cY (p:=p) e,cY e,Xi,if_neg (fun z=>h (e.trans z))]
   ·rw [dU (p:=p) e,dU e,ih]
theorem nG (k j:κ) (y:V):∀ kvs:List (κ×V),cW kvs k=none->cW (kvs++[(k,y)]) j=if j=k then some y else cW kvs j
 | [],_=>by
  by_cases e:k=j
  ·rw [if_pos e.symm]; exact cY (p:=(k,y)) e
  ·rw [if_neg (fun z=>e z.symm)]; exact dU (p:=(k,y)) e
 | p::r,hn=>by
  rw [Yh]
  have hk:¬ p.1=k:=fun z=>by rw [cY z] at hn; cases hn
  rw [dU hk] at hn
  have ih:=nG k j y r hn
  by_cases e:p.1=j
  ·rw [cY e,cY e,if_neg (fun z=>hk (e.trans z))]
  ·rw [dU e,dU e,ih]
theorem vY (kvs:List (κ×V)) (k j:κ) (y:V):cW (jA kvs k y) j=if j=k then some y else cW kvs j:=by
 unfold jA
 by_cases a:(kvs.any fun kv=>decide (kv.1=k))=true
 ·rw [if_pos a,vX]
  rw [gC] at a
  by_cases e:j=k
  ·obtain ⟨x,hx⟩:=Yb.mp a
   rw [if_pos e,e,hx,Xi,if_pos rfl]
  ·rw [if_neg e]
   cases cW kvs j with
   | none=>rfl
   | some x=>rw [Xi,if_neg e]
 ·rw [if_neg a]
  refine nG k j y kvs ?_
  rw [gC] at a
  cases q:cW kvs k with
  | none=>rfl
  | some x=>rw [q] at a; exact (a rfl).elim
theorem kF (kvs:List (κ×V)) (k:κ) (v:V):(jA kvs k v).length<=kvs.length+1:=by
 unfold jA
 split
 ·rw [Qb]; omega
 ·rw [Qs,Jk,Xz]; omega
theorem aBP {kvs:List (κ×V)} {k:κ} (v:V) (h:cW kvs k=none):jA kvs k v=kvs++[(k,v)]:=by
 unfold jA
 rw [gC,h]
 exact if_neg (by decide)
theorem oC.isSome_eq {o:Option V} {u:Option Value} (r:oC o u):o.isSome=u.isSome:=by
 cases o with
 | none => cases u with
   | none=>rfl
   | some _=>exact (show False from r).elim
 | some _ => cases u with
   | none=>exact (show False from r).elim
   | some _=>rfl
theorem oC.getD {o:Option V} {u:Option Value} {d:V} {d':Value} (r:oC o u) (rd:bJ d d'):bJ (o.getD d) (u.getD d'):=by
 cases o with
 | none => cases u with
   | none=>exact rd
   | some _=>exact (show False from r).elim
 | some _ => cases u with
   | none=>exact (show False from r).elim
   | some _=>exact r
theorem KV.val {kvs:List (κ×V)} {vs:List (κ×Value)} (r:KV kvs vs) (k:κ):oC (cW kvs k) (valueAt vs k):=by
 unfold KV at r
 induction r with
 | nil=>exact True.intro
 | @cons p q ps qs h t ih =>
  obtain ⟨h1,h2⟩:=h
  by_cases e:p.1=k
  ·have e':q.1=k:=h1.symm.trans e
   have b:valueAt (q::qs) k=some q.2:=by simp [valueAt,Za,e']
   rw [cY e,b]; exact h2
  ·have e':¬ q.1=k:=fun z=>e (h1.trans z)
   have b:valueAt (q::qs) k=valueAt qs k:=by simp [valueAt,Za,e']
   rw [dU e,b]; exact ih
theorem KV.any {kvs:List (κ×V)} {vs:List (κ×Value)} (r:KV kvs vs) (k:κ):(kvs.any fun kv=>decide (kv.1=k))=vs.any fun kv=>decide (kv.1=k):=by
 unfold KV at r
 induction r with
 | nil=>rfl
 | cons h t ih=>rw [Zp,Zp,ih,h.1]
theorem KV.repl {kvs:List (κ×V)} {vs:List (κ×Value)} (r:KV kvs vs) (k:κ) {y:V} {u:Value} (ry:bJ y u) :
  KV (kvs.map fun kv=>if kv.1=k then (kv.1,y) else kv) (vs.map fun kv=>if kv.1=k then (kv.1,u) else kv):=by
 unfold KV at r ⊢
 induction r with
 | nil=>exact .nil
 | @cons p q ps qs h t ih =>
  rw [Qu,Qu]
  refine .cons ?_ ih
  obtain ⟨h1,h2⟩:=h
  by_cases e:p.1=k
  ·rw [if_pos e,if_pos (h1.symm.trans e)]; exact ⟨h1,ry⟩
  ·rw [if_neg e,if_neg (fun z=>e (h1.trans z))]; exact ⟨h1,h2⟩
theorem KV.put {kvs:List (κ×V)} {vs:List (κ×Value)} (r:KV kvs vs) (k:κ) {y:V} {u:Value} (ry:bJ y u):KV (jA kvs k y) (stored vs k u):=by
 unfold jA stored
 rw [r.any k]
 by_cases e:(vs.any fun kv=>decide (kv.1=k))=true
 ·rw [if_pos e,if_pos e]; exact r.repl k ry
 ·rw [if_neg e,if_neg e]; exact Paired.snoc r ⟨rfl,ry⟩
theorem KV.drop {kvs:List (κ×V)} {vs:List (κ×Value)} (r:KV kvs vs) (k:κ):KV (aDO kvs k) (without vs k):=by
 unfold KV at r ⊢
 unfold aDO without
 induction r with
 | nil=>exact .nil
 | @cons p q ps qs h t ih =>
  obtain ⟨h1,h2⟩:=h
  rw [List.filter_cons,List.filter_cons]
  by_cases e:p.1=k
  ·have a:¬ decide (p.1≠k)=true:=by simp [e]
   have b:¬ decide (q.1≠k)=true:=by simp [h1.symm.trans e]
   rw [if_neg a,if_neg b]; exact ih
  ·have e':¬ q.1=k:=fun z=>e (h1.trans z)
   have a:decide (p.1≠k)=true:=by simp [e]
   have b:decide (q.1≠k)=true:=by simp [e']
   rw [if_pos a,if_pos b]; exact .cons ⟨h1,h2⟩ ih
theorem KV.keys {kvs:List (κ×V)} {vs:List (κ×Value)} (r:KV kvs vs):kvs.map (·.1)=vs.map (·.1):=by
 unfold KV at r
 induction r with
 | nil=>rfl
 | cons h t ih=>rw [Qu,Qu,ih,h.1]
theorem KV.length {kvs:List (κ×V)} {vs:List (κ×Value)} (r:KV kvs vs):kvs.length=vs.length:=Paired.length r
end
theorem sI {P:Program} {w:World} {k:Key} {u:Value} (r:bJ (kV k) u):(cG P w).is k u=true:=by
 cases k with
 | inl i=>obtain ⟨t,e⟩:=(show ∃ t,u=Value.int i t from r); subst e; exact uT P w i t
 | inr x=>obtain ⟨t,e⟩:=(show ∃ t,u=Value.str x t from r); subst e; exact uU P w x t
theorem sJ {P:Program} {w:World}:∀ {ks:List Key} {us:List Value},aZ (ks.map kV) us->ItemsAre (cG P w) ks us
 | [],_,r=>by rw [Ym] at r; cases r; exact .nil
 | k::ks,_,r=>by
  rw [Qu] at r
  cases r with
  | cons h t=>exact .cons (sI h) (sJ t)
abbrev KT (H:Hp):List (List Key×V)->List (List Key×Addr×Value)->Prop:=Paired fun p q=>p.1=q.1/\H q.2.1=some (.tup (p.1.map kV))/\bJ p.2 q.2.2
theorem KT.val {H:Hp} {kvs:List (List Key×V)} {xs:List (List Key×Addr×Value)} (r:KT H kvs xs) (k:List Key):oC (cW kvs k) ((atKey xs k).map (·.2)):=by
 induction r with
 | nil=>exact True.intro
 | @cons p q ps qs h t ih =>
  obtain ⟨h1,_,h2⟩:=h
  by_cases e:p.1=k
  ·have e':q.1=k:=h1.symm.trans e
   have b:atKey (q::qs) k=some q.2:=by simp [atKey,Za,e']
   rw [cY e,b]; exact h2
  ·have e':¬ q.1=k:=fun z=>e (h1.trans z)
   have b:atKey (q::qs) k=atKey qs k:=by simp [atKey,Za,e']
   rw [dU e,b]; exact ih
theorem KT.repl {H:Hp} {kvs:List (List Key×V)} {xs:List (List Key×Addr×Value)} (r:KT H kvs xs) (k:List Key) {y:V} {u:Value} (ry:bJ y u) :
  KT H (kvs.map fun kv=>if kv.1=k then (kv.1,y) else kv) (xs.map (putAt k u)):=by
 induction r with
 | nil=>exact .nil
 | @cons p q ps qs h t ih =>
  rw [Qu,Qu]
  refine .cons ?_ ih
  obtain ⟨h1,h2,h3⟩:=h
  unfold putAt
  by_cases e:p.1=k
  ·rw [if_pos e,if_pos (h1.symm.trans e)]; exact ⟨h1,h2,ry⟩
  ·rw [if_neg e,if_neg (fun z=>e (h1.trans z))]; exact ⟨h1,h2,h3⟩
theorem KT.put {H:Hp} {kvs:List (List Key×V)} {xs:List (List Key×Addr×Value)} (r:KT H kvs xs) (k:List Key) {b:Addr} {y:V} {u:Value} (hb:H b=some (.tup (k.map kV))) (ry:bJ y u) :
  KT H (jA kvs k y) (storedH xs k b u):=by
 have e:(kvs.any fun kv=>decide (kv.1=k))=(atKey xs k).isSome:=by
  rw [gC,(r.val k).isSome_eq,Yd]
 unfold jA storedH
 rw [e]
 by_cases q:(atKey xs k).isSome=true
 ·rw [if_pos q,if_pos q]; exact r.repl k ry
 ·rw [if_neg q,if_neg q]; exact Paired.snoc r ⟨rfl,hb,ry⟩
theorem KT.keeps {H H':Hp} {kvs:List (List Key×V)} {xs:List (List Key×Addr×Value)} (r:KT H kvs xs) (ht:∀ b ys,H b=some (.tup ys)->H' b=some (.tup ys)):KT H' kvs xs :=
 Paired.mapP r fun _ _ z=>⟨z.1,ht _ _ z.2.1,z.2.2⟩
section
variable {P:Program} {w:World} {H:Hp} {h:Heap} {a:Addr}
theorem aDP {u:HO} (ok:HOk P w H h) (e:Rd H a u):bL P w H h a u:=e.ok ok
theorem vZ {kvs:List (Key×V)} (ok:HOk P w H h) (e:Rd H a (.dK kvs)):kvs.length<=sizeLine/\(a==sysModules)=false/\∃ vs,KV kvs vs/\h.DictOf (cG P w) a vs :=
 show bL P w H h a (.dK kvs) from aDP ok e
theorem aFo {kvs:List (Key×V)} (ok:HOk P w H h) (e:H a=some (.dK kvs)):kvs.length<=sizeLine/\(a==sysModules)=false/\∃ vs,KV kvs vs/\h.DictOf (cG P w) a vs:=vZ ok (.inl e)
theorem pX {ks:List Key} (ok:HOk P w H h) (e:H a=some (.tup (ks.map kV))):(tupleKind (cG P w)).is h ks a:=by
 obtain ⟨_,its,n,r,e1⟩:=(show bL P w H h a (.tup (ks.map kV)) from ok a _ e)
 exact ⟨_,its.toArray,n,e1,rfl,rfl,by simpa using sJ r⟩
theorem wA {kvs:List (List Key×V)} (ok:HOk P w H h) (e:Rd H a (.dT kvs)):kvs.length<=sizeLine/\(a==sysModules)=false /\
  ∃ xs,KT H kvs xs/\h.DictOfH (tupleKind (cG P w)) a xs:=by
 obtain ⟨z,y,xs,r,o,es,ep,h1,h2,h3,h4,h5⟩:=(show bL P w H h a (.dT kvs) from aDP ok e)
 refine ⟨z,y,xs,r,o,es,ep,h1,h2,h3,h4,fun x hx=>?_,h5⟩
 have all:∀ {l:List (List Key×V)} {m:List (List Key×Addr×Value)},KT H l m->∀ x∈m,(tupleKind (cG P w)).is h x.1 x.2.1:=by
  intro l m q
  induction q with
  | nil=>intro x hx; exact nomatch hx
  | @cons p q ps qs hq t ih =>
   intro x hx
   rcases Qk.mp hx with e | hx
   ·subst e
    exact pX ok (by rw [<- hq.1]; exact hq.2.1)
   ·exact ih x hx
 exact all r x hx
theorem aFp {kvs:List (List Key×V)} (ok:HOk P w H h) (e:H a=some (.dT kvs)):kvs.length<=sizeLine/\(a==sysModules)=false /\
  ∃ xs,KT H kvs xs/\h.DictOfH (tupleKind (cG P w)) a xs:=wA ok (.inl e)
end
def nH (H:Hp) (a:Addr) (y:V) (r:Option V):Prop :=
 (∃ kvs k,Rd H a (.dK kvs)/\y=kV k/\r=cW kvs k)∨∃ kvs k b,Rd H a (.dT kvs)/\y=.ref b/\H b=some (.tup (k.map kV))/\r=cW kvs k
def wB (H:Hp) (a:Addr) (y v:V) (H':Hp):Prop :=
 (∃ kvs k,H a=some (.dK kvs)/\y=kV k/\kvs.length < sizeLine/\H'=upd H a (.dK (jA kvs k v))) ∨
 ∃ kvs k b,H a=some (.dT kvs)/\y=.ref b/\H b=some (.tup (k.map kV))/\kvs.length < sizeLine/\H'=upd H a (.dT (jA kvs k v))
theorem nH.k {H:Hp} {a:Addr} {kvs:List (Key×V)} {k:Key} (e:H a=some (.dK kvs)):nH H a (kV k) (cW kvs k):=.inl ⟨kvs,k,.inl e,rfl,rfl⟩
theorem nH.t {H:Hp} {a b:Addr} {kvs:List (List Key×V)} {k:List Key} (e:H a=some (.dT kvs)) (eb:H b=some (.tup (k.map kV))):nH H a (.ref b) (cW kvs k):=.inr ⟨kvs,k,b,.inl e,rfl,eb,rfl⟩
theorem wB.k {H:Hp} {a:Addr} {kvs:List (Key×V)} {k:Key} {v:V} (e:H a=some (.dK kvs)) (hl:kvs.length < sizeLine):wB H a (kV k) v (upd H a (.dK (jA kvs k v))):=.inl ⟨kvs,k,e,rfl,hl,rfl⟩
theorem wB.t {H:Hp} {a b:Addr} {kvs:List (List Key×V)} {k:List Key} {v:V} (e:H a=some (.dT kvs)) (eb:H b=some (.tup (k.map kV))) (hl:kvs.length < sizeLine) :
  wB H a (.ref b) v (upd H a (.dT (jA kvs k v))):=.inr ⟨kvs,k,b,e,rfl,eb,hl,rfl⟩
section
variable {X:Cx} {pins:List (Addr×Obj)} {σ:St} {H:Hp} {s:Shared} {a:Addr} {y v:V} {u r:Value} {o:Option V} {A:Around} {E:Value->Shared->Prop}
theorem Inv.big (I:Inv X pins σ H s):sysModules < s.heap.objs.size:=by
 have h:mainGlobals < s.heap.objs.size:=(I.mod.glob.keeps I.bk).lt
 exact Nat.lt_trans (by decide) h
theorem aAO {Q:Value->Shared->Prop} (hu:A.units+1 < cLine) (I:Inv X pins σ H s) (g:nH H a y (some v)) (ry:bJ y u) (h:∀ w' s',Inv X pins σ H s'->bJ v w'->Q w' s') :
  wpAny (model X.prog X.w) A (getItem (.ref a) u) Q E s:=by
 rcases g with ⟨kvs,k,e,ey,l⟩ | ⟨kvs,k,b,e,ey,eb,l⟩
 ·subst ey
  obtain ⟨z,hd,vs,rel,dd⟩:=vZ I.hok e
  obtain ⟨w',hw,rw'⟩:=oC.some_of (v:=v) (o:=valueAt vs k) (by rw [l]; exact rel.val k)
  exact wpAny_getItem_of (sI ry) dd.mapOf hw (h w' _ (I.tok _) rw')
 ·subst ey
  cases (show u=Value.ref b from ry)
  obtain ⟨z,hd,xs,rel,dd⟩:=wA I.hok e
  obtain ⟨w',hw,rw'⟩:=oC.some_of (v:=v) (o:=(atKey xs k).map (·.2)) (by rw [l]; exact rel.val k)
  obtain ⟨p,hp,hp2⟩:=Option.map_eq_some_iff.mp hw
  refine wpAny_getItem_heap (tupleKind_room_in1 hu) (pX I.hok eb) dd hp ?_
  rw [hp2]
  exact h w' _ (I.tok _) rw'
theorem aFV {Q:Value->Shared->Prop} (hu:A.units+1 < cLine) (I:Inv X pins σ H s) (g:nH H a y o) (ry:bJ y u) (h:∀ s',Inv X pins σ H s'->Q (.bool o.isSome) s') :
  wpAny (model X.prog X.w) A (compareOp .In u (.ref a)) Q E s:=by
 rcases g with ⟨kvs,k,e,ey,l⟩ | ⟨kvs,k,b,e,ey,eb,l⟩
 ·subst ey
  obtain ⟨z,hd,vs,rel,dd⟩:=vZ I.hok e
  refine wpAny_in_of (sI ry) hd dd.mapOf ?_
  rw [<- (rel.val k).isSome_eq,<- l]
  exact h _ (I.tok _)
 ·subst ey
  cases (show u=Value.ref b from ry)
  obtain ⟨z,hd,xs,rel,dd⟩:=wA I.hok e
  refine wpAny_in_heap (tupleKind_room_in1 hu) (pX I.hok eb) hd dd ?_
  have q:=(rel.val k).isSome_eq
  rw [Yd] at q
  rw [<- q,<- l]
  exact h _ (I.tok _)
theorem aDb {Q:Value->Shared->Prop} (hu:A.units+1 < cLine) (I:Inv X pins σ H s) (g:nH H a y o) (ry:bJ y u) (h:∀ s',Inv X pins σ H s'->Q (.bool (!o.isSome)) s') :
  wpAny (model X.prog X.w) A (compareOp .NotIn u (.ref a)) Q E s:=by
 rcases g with ⟨kvs,k,e,ey,l⟩ | ⟨kvs,k,b,e,ey,eb,l⟩
 ·subst ey
  obtain ⟨z,hd,vs,rel,dd⟩:=vZ I.hok e
  refine wpAny_notIn_of (sI ry) hd dd.mapOf ?_
  rw [<- (rel.val k).isSome_eq,<- l]
  exact h _ (I.tok _)
 ·subst ey
  cases (show u=Value.ref b from ry)
  obtain ⟨z,hd,xs,rel,dd⟩:=wA I.hok e
  refine wpAny_notIn_heap (tupleKind_room_in1 hu) (pX I.hok eb) hd dd ?_
  have q:=(rel.val k).isSome_eq
  rw [Yd] at q
  rw [<- q,<- l]
  exact h _ (I.tok _)
theorem tW {h':Heap} {t':Nat} {ob:HO} (I:Inv X pins σ H s) (mu:Mut (H a)) (hs:Heap.SameBut a s.heap h') (he:∃ q,h'.get? a=some q) (new:bL X.prog X.w (upd H a ob) h' a ob) :
  Inv X pins σ (upd H a ob) { s with heap:=h',toks:=t' } :=
 I.write (x:=a) (e:=a) mu (.inl rfl) (fun b q hb z=>(hs.2 b hb).trans z) he new
theorem aBQ {P:Program} {w:World} {H':Hp} {h':Heap} {kvs:List (Key×V)} {vs:List (Key×Value)} (z:kvs.length<=sizeLine) (hd:(a==sysModules)=false) (rel:KV kvs vs) (dd:h'.DictOf (cG P w) a vs) :
  bL P w H' h' a (.dK kvs):=⟨z,hd,vs,rel,dd⟩
theorem aAP {H':Hp} {Q:Unit->Shared->Prop} (hu:A.units+1 < cLine) (I:Inv X pins σ H s) (g:wB H a y v H') (ry:bJ y u) (rv:bJ v r) (h:∀ s',Inv X pins σ H' s'->Q () s') :
  wpAny (model X.prog X.w) A (setItem (.ref a) u r) Q E s:=by
 rcases g with ⟨kvs,k,e,ey,l,eH⟩ | ⟨kvs,k,b,e,ey,eb,l,eH⟩
 ·subst ey eH
  obtain ⟨z,hd,vs,rel,dd⟩:=aFo I.hok e
  have hz:vs.length<=sizeLine:=by rw [<- rel.length]; exact z
  have hl:(jA kvs k v).length<=sizeLine:=by have:=kF kvs k v; omega
  refine wpAny_setItem_pairs (hsz:=hz) (sI ry) dd fun h' dd' hs=>h _ ?_
  have he:∃ q,h'.get? a=some q:=let ⟨q,_,_,hq,_⟩:=dd'; ⟨q,hq⟩
  exact tW I (by rw [e]; exact True.intro) hs he (aBQ hl hd (rel.put k rv) dd')
 ·subst ey eH
  cases (show u=Value.ref b from ry)
  obtain ⟨z,hd,xs,rel,dd⟩:=aFp I.hok e
  have hz:xs.length<=sizeLine:=by rw [<- Paired.length rel]; exact z
  have hl:(jA kvs k v).length<=sizeLine:=by have:=kF kvs k v; omega
  refine wpAny_setItem_heap (hsz:=hz) (tupleKind_room_in1 hu) (pX I.hok eb) dd fun h' dd' hs=>h _ ?_
  obtain ⟨q,es,ep,hq,h2,h3,h4,_,h5⟩:=dd'
  refine tW I (by rw [e]; exact True.intro) hs ⟨q,hq⟩ ⟨hl,hd,_,(rel.put k eb rv).keeps fun c ys ec=>?_,q,es,ep,hq,h2,h3,h4,h5⟩
  rw [aK (aET ec e (fun z=>nomatch z))]
  exact ec
end
section
variable {X:Cx} {pins:List (Addr×Obj)} {σ:St} {H:Hp} {s:Shared} {a:Addr} {kvs:List (Key×V)} {k:Key} {u:Value} {A:Around} {E:Value->Shared->Prop}
end
def aFq (i:Expr):Prop:=∀ ov iv,subscripted i false ov iv=operate [ov,iv] (getItem ov iv)
theorem aDc {prog:Program} {w:World} {A:Around} {E:Value->Shared->Prop} {s:Shared} {env:Env} {value slice:Expr} {pos:Pos} {T id:String} {Q:Value->Shared->Prop}
  (hl:typeLookup (.type T) "__getitem__" = pure (some (.builtin id))) (hs:aFq slice)
  (h:wpAny (model prog w) A (eval value env) (fun o s₁=>wpAny (model prog w) A (eval slice env) (fun i s₂=>s₂.TypeIs o T/\wpAny (model prog w) A (getItem o i) Q E s₂) E s₁) E s) :
  wpAny (model prog w) A (eval (.Subscript value slice pos) env) Q E s:=by
 refine Subscript_ (wpAny_mono h (fun o s₁ h₁=>wpAny_mono h₁ (fun i s₂ h₂=>?_) fun _ _ x=>x) fun _ _ x=>x)
 obtain ⟨hT,h₂⟩:=h₂
 unfold subscriptTail
 refine wpAny_bind ?_
 rw [getitemInPython_of_ne hT.not_modules]
 refine wpAny_bind (wpAny_specialOf hT hl ?_)
 have fin:wpAny (model prog w) A (subscripted slice false o i) (fun r s₃=>wpAny (model prog w) A (letTemporaryGo value o r >>= fun _=>pure r) Q E s₃) E s₂:=by
  rw [hs o i]
  exact wpAny_operating (wpAny_mono h₂ (fun r s₃ h₃=>wpAny_bind (wpAny_letTemporaryGo (wpAny_pure h₃))) fun _ _ x=>x)
 first
  | exact wpAny_pure (wpAny_bind fin)
  | exact wpAny_bind (wpAny_pure (wpAny_bind fin))
  | exact wpAny_bind fin
theorem wC {X:Cx} {pins:List (Addr×Obj)} {σ:St} {H:Hp} {s:Shared} {a:Addr} {y:V} {o:Option V} (I:Inv X pins σ H s) (g:nH H a y o):s.TypeIs (.ref a) "dict" := by
 rcases g with ⟨kvs,k,e,_,_⟩ | ⟨kvs,k,b,e,_,_,_⟩
 ·obtain ⟨_,_,vs,_,dd⟩:=vZ I.hok e
  exact dd.typeIs
 ·obtain ⟨_,_,xs,_,dd⟩:=wA I.hok e
  exact dd.typeIs
def aFr (td ty:TE):TE:=fun σ H Q=>td σ H fun x H1=>ty σ H1 fun y H2=>∃ a v,x=.ref a/\nH H2 a y (some v)/\Q v H2
def aFW (ty td:TE):TE:=fun σ H Q=>ty σ H fun y H1=>td σ H1 fun x H2=>∃ a o,x=.ref a/\nH H2 a y o/\Q (.bl o.isSome) H2
def aDd (ty td:TE):TE:=fun σ H Q=>ty σ H fun y H1=>td σ H1 fun x H2=>∃ a o,x=.ref a/\nH H2 a y o/\Q (.bl (!o.isSome)) H2
def aFs (td ty tv:TE):TS:=fun D σ H=>tv σ H fun v H1=>td σ H1 fun x H2=>ty σ H2 fun y H3=>∃ a H4,x=.ref a/\wB H3 a y v H4/\D.nx σ H4
section
variable {X:Cx} {o i e value:Expr} {pos pos' tpos:Pos} {td ty tv:TE}
theorem tX (hu:X.A.units+1 < cLine) (ho:PE X o td) (hi:PE X i ty) (hs:aFq i):PE X (.Subscript o i pos) (aFr td ty):=by
 intro pins s σ H Q I h
 refine aDc PySem.F.slot_dict_getitem.lookup hs (thn (ho pins s σ H _ I h) fun u s1 ⟨x,H1,I1,rx,q1⟩=>thn (hi pins s1 σ H1 _ I1 q1) fun iv s2 hx9=>?_)
 obtain ⟨y,H2,I2,ry,a,v,ex,g,q2⟩:=hx9
 subst ex
 obtain rfl:u=Value.ref a:=rx
 exact ⟨wC I2 g,aAO hu I2 g ry fun w' s3 I3 rw'=>⟨v,H2,I3,rw',q2⟩⟩
theorem aEA (hu:X.A.units+1 < cLine) (hi:PE X i ty) (ho:PE X o td):PC X .In i o (aFW ty td):=by
 intro pins s σ H Q I h
 refine thn (hi pins s σ H _ I h) fun iv s1 ⟨y,H1,I1,ry,q1⟩=>thn (ho pins s1 σ H1 _ I1 q1) fun u s2 hx9=>?_
 obtain ⟨x,H2,I2,rx,a,ov,ex,g,q2⟩:=hx9
 subst ex
 obtain rfl:u=Value.ref a:=rx
 exact aFV hu I2 g ry fun s3 I3=>⟨.bl ov.isSome,H2,I3,rfl,q2⟩
theorem aAQ (hu:X.A.units+1 < cLine) (hi:PE X i ty) (ho:PE X o td):PC X .NotIn i o (aDd ty td):=by
 intro pins s σ H Q I h
 refine thn (hi pins s σ H _ I h) fun iv s1 ⟨y,H1,I1,ry,q1⟩=>thn (ho pins s1 σ H1 _ I1 q1) fun u s2 hx9=>?_
 obtain ⟨x,H2,I2,rx,a,ov,ex,g,q2⟩:=hx9
 subst ex
 obtain rfl:u=Value.ref a:=rx
 exact aDb hu I2 g ry fun s3 I3=>⟨.bl (!ov.isSome),H2,I3,rfl,q2⟩
theorem zW (hu:X.A.units+1 < cLine) (ho:PE X o td) (hi:PE X i ty) (hv:PE X value tv) (hs:swapsWith value (some (.Subscript o i pos')) pos.line X.env=pure false) :
  PS X (.Assign [.Subscript o i pos'] value pos) (aFs td ty tv):=by
 intro pins s σ H D I h
 refine wpAny_Assign_Subscript (thn (hv pins s σ H _ I h) fun r s1 ⟨v,H1,I1,rv,q1⟩=>thn (ho pins s1 σ H1 _ I1 q1) fun u s2 ⟨x,H2,I2,rx,q2⟩=>thn (hi pins s2 σ H2 _ I2 q2) fun iv s3 hx9=>?_) hs
 obtain ⟨y,H3,I3,ry,a,H4,ex,g,q3⟩:=hx9
 subst ex
 obtain rfl:u=Value.ref a:=rx
 exact aAP hu I3 g ry rv fun s4 I4=>⟨σ,H4,I4,q3⟩
end
theorem wD {P:Program} {w:World} {H:Hp} (h:Heap) (hb:sysModules < h.objs.size):bL P w H (h.push { cls:=.type "dict",data:=.dict #[] }) h.objs.size (.dK []) :=
 ⟨Jm _,beq_eq_false_iff_ne.mpr (Ne.symm (Qt hb)),[],.nil,Heap.DictOf.new h⟩
def aEB:TE:=fun _ H Q=>∀ p,H p=none->Q (.ref p) (upd H p (.dK []))
section
variable {X:Cx} {pos:Pos}
theorem aBR:PE X (.Dict [] [] pos) aEB:=fun pins s σ H Q I h =>
 wpAny_Dict_empty ⟨.ref s.heap.objs.size,_,I.laid (a:=s.heap.objs.size) (o:=.dK []) (t':=s.toks) (fun _ _ q=>Qa _ q) (Qi _) (wD s.heap I.big),rfl,h _ (I.hok.fresh (Qi _))⟩
end
def NF (H0:Hp) (a:Addr):Prop:=∀ o u,H0 a≠some (.frz o u)
section
variable {X:Cx} {pins:List (Addr×Obj)} {σ:St} {H:Hp} {s:Shared} {a:Addr}
theorem Inv.freeze {kvs:List (Key×V)} {o:Obj} (I:Inv X pins σ H s) (e:H a=some (.dK kvs)) (ho:s.heap.get? a=some o):Inv X pins σ (upd H a (.frz o (.dK kvs))) s:=by
 have m:Mut (H a):=by rw [e]; trivial
 have q:bL X.prog X.w H s.heap a (.dK kvs):=I.hok a _ e
 exact I.write (x:=a) (e:=a) (t':=s.toks) m (.inl rfl) (fun b u _ z=>z) ⟨o,ho⟩ ⟨ho,q⟩
theorem Inv.nf {kvs:List (Key×V)} (I:Inv X pins σ H s) (e:H a=some (.dK kvs)):NF X.H₀ a:=fun o u z=>by
 have:=I.base.frzs a o u z
 rw [e] at this; cases this
theorem Inv.thaw {kvs:List (Key×V)} {o:Obj} (I:Inv X pins σ H s) (e:H a=some (.frz o (.dK kvs))) (nf:NF X.H₀ a):Inv X pins σ (upd H a (.dK kvs)) s:=by
 have ne:∀ b,H b=none->b≠a:=fun b n z=>by rw [z,e] at n; cases n
 have nt:∀ b xs,H b=some (.tup xs)->b≠a:=fun b xs n z=>by rw [z,e] at n; cases n
 have no:∀ b x,H b=some (.own x)->b≠a:=fun b xs n z=>by rw [z,e] at n; cases n
 obtain ⟨ho,q⟩:s.heap.get? a=some o/\bL X.prog X.w H s.heap a (.dK kvs):=I.hok a _ e
 have un:Un X.fs X.ex X.H₀ (upd H a (.dK kvs)) X.s₀.heap s.heap:=by
  refine ⟨I.base.keep,I.base.slot,fun b ob q n hx=>?_,I.base.there,fun b xs q=>?_,fun b ob u q=>?_,fun b ps q=>?_⟩
  ·have z:=I.base.free b ob q n hx
   rw [aK (ne b z)]; exact z
  ·have z:=I.base.tups b xs q
   rw [aK (nt b xs z)]; exact z
  ·have z:=I.base.frzs b ob u q
   have n:b≠a:=fun y=>nf ob u (y ▸ q)
   rw [aK n]; exact z
  ·obtain ⟨m,z⟩:=I.base.tbls b ps q
   have n:b≠a:=fun y=>by rw [y,e] at z; cases z
   exact ⟨m,by rw [aK n]; exact z⟩
 refine ⟨I.ok,I.os,I.bare,un,I.loc,I.cell,?_,fun x c h=>?_,fun p hp=>?_,fun b u h=>?_,I.len⟩
 ·rw [aK (ne _ I.free)]; exact I.free
 ·have z:=I.freeC x c h
  rw [aK (ne _ z)]; exact z
 ·obtain ⟨p1,p2,p3⟩:=I.pin p hp
  exact ⟨p1,by rw [aK (ne _ p2)]; exact p2,p3⟩
 ·by_cases hb:b=a
  ·subst hb
   rw [aC] at h
   cases h
   exact bL.stay q (fun _ _ _ z=>z) (fun c z=>by rw [aK (no c _ z)]; exact z) (fun c xs z=>by rw [aK (nt c xs z)]; exact z)
  ·rw [aK hb] at h
   exact bL.stay (I.hok b u h) (fun _ _ _ z=>z) (fun c z=>by rw [aK (no c _ z)]; exact z) (fun c xs z=>by rw [aK (nt c xs z)]; exact z)
end
def Itd (a:Addr) (o:Obj) (kvs:List (Key×V)):It :=
 ⟨fun i H=>H a=some (.frz o (.dK kvs))/\i < kvs.length,fun i H x H'=>H'=H/\∃ p,kvs[i]?=some p/\x=kV p.1,fun i H=>H a=some (.frz o (.dK kvs))/\i=kvs.length⟩
theorem wE {P:Program} {w:World} {k:Key} {u:Value} (h:(cG P w).is k u=true):bJ (kV k) u:=by
 rcases cH h with ⟨i,t,rfl,rfl⟩ | ⟨x,t,rfl,rfl⟩
 ·exact ⟨t,rfl⟩
 ·exact ⟨t,rfl⟩
theorem nI {P:Program} {w:World} {h:Heap} {a:Addr} {o:Obj} {es:Array DictEntry} {ep:Nat} {vs:List (Key×Value)} (ho:h.get? a=some o) (hd:o.data=.dict es ep) (d:h.DictOf (cG P w) a vs):h.DictAt (cG P w) a vs ep:=by
 obtain ⟨o',es',ep',q1,q2,q3,r⟩:=d
 rw [ho] at q1; cases q1
 rw [hd] at q3; cases q3
 exact ⟨o,es,ho,q2,hd,r⟩
theorem aAR {P:Program} {w:World} {K:PySem.W.Frag} {tg:Expr} (a it:Addr) (o:Obj) (es:Array DictEntry) (ep:Nat) (hd:o.data=.dict es ep) (kvs:List (Key×V)) :
  Turn P w K tg (Itd a o kvs) [it] it (fun i h=>h.IsKeyIter it a i kvs.length ep) where
 mem:=by simp
 obj:=fun i h st b hb=>by
  have e:b=it:=by simpa using hb
  subst e
  obtain ⟨o,e,c,d⟩:=st
  exact ⟨o,e,fun v z=>by rw [d] at z; cases z⟩
 keep:=fun i h h' st k=>st.at fun o e=>k it (by simp) o e
 item:=by
  intro X hP hw hK hc i pins s σ H E I hf st hg
  subst hP hw hK
  obtain ⟨hA,hi⟩:=hg
  obtain ⟨ho,hz,hs,vs,kv,dd⟩:s.heap.get? a=some o/\bL X.prog X.w H s.heap a (.dK kvs):=I.hok a _ hA
  have da:=nI ho hd dd
  have hl:kvs.length=vs.length:=kv.length
  obtain ⟨f0,f1,f2,f3,f4,f5⟩:=hf it (by simp)
  obtain ⟨⟨k,x⟩,hx⟩:∃ p,vs[i]?=some p:=⟨vs[i]'(by omega),by simp⟩
  rw [hl] at st
  refine wpAny_pyNext_dict_item st da hx fun key h' hkey st' sb=>?_
  have I1:Inv X pins σ H { s with heap:=h' }:=I.turned (t':=s.toks) (fun b o hb e=>(sb.2 b hb).trans e) f0 f1 f3 f4 f5
  obtain ⟨o',e',c',d'⟩:=id st'
  have hk:kvs[i]?=some (kvs[i]):=Qd hi
  have hkk:(kvs[i]).1=k:=by
   have e:=kv.keys
   have e1:(kvs.map (·.1))[i]?=some (kvs[i]).1:=by rw [Qh,hk]; rfl
   have e2:(vs.map (·.1))[i]?=some k:=by rw [Qh,hx]; rfl
   rw [e,e2] at e1
   exact (Option.some.inj e1).symm
  rw [<- hl] at st'
  exact ⟨key,rfl,yZ (s:={ s with heap:=h' }) e' c' d' (by decide) ⟨kV k,H,I1,wE hkey,⟨rfl,_,hk,by rw [hkk]⟩,st',fun b hb=>(hf b hb).1⟩⟩
 done:=by
  intro X hP hw hK hc i pins s σ H E I hf st hg
  subst hP hw hK
  obtain ⟨hA,hi⟩:=hg
  obtain ⟨ho,hz,hs,vs,kv,dd⟩:s.heap.get? a=some o/\bL X.prog X.w H s.heap a (.dK kvs):=I.hok a _ hA
  have da:=nI ho hd dd
  have hl:kvs.length=vs.length:=kv.length
  obtain ⟨f0,f1,f2,f3,f4,f5⟩:=hf it (by simp)
  rw [hl] at st
  exact wpAny_pyNext_dict_end (I.ok.hd hc) st da (by simp; omega) fun h' eb=>⟨rfl,I.turned (t':=s.toks) (fun b o hb e=>eb b o hb e) f0 f1 f3 f4 f5⟩
 self:=fun _ _ _ _ _ st h=>wpAny_pyIter_keyiter st h
section
variable {X:Cx} {tg:Expr}
def aFt (H0:Hp) (td:TE):TI:=fun σ H R=>td σ H fun x H1=>∃ a kvs,x=.ref a/\H1 a=some (.dK kvs)/\∀ o,NF H0 a->R (Itd a o kvs) (upd H1 a (.frz o (.dK kvs)))
theorem zX {d:Expr} {td:TE} (hl:PE X d td):PI X tg d (aFt X.H₀ td):=by
 intro pins s σ H R I h
 refine thn (hl pins s σ H _ I h) fun v s1 hx9=>?_
 obtain ⟨x,H1,I1,r1,q1⟩:=hx9
 obtain ⟨a,kvs,e,hq,q⟩:=q1
 subst e
 cases r1
 obtain ⟨hz,hs,vs,kv,dd⟩:bL X.prog X.w H1 s1.heap a (.dK kvs):=I1.hok a _ hq
 obtain ⟨o,es,ep,ho,oe,hd,r⟩:=id dd
 have da:=nI ho hd dd
 refine wpAny_pyIter_dict hs da ?_
 have I2:=(I1.freeze hq ho).kept (h':=s1.heap.push { cls:=.type "dict_keyiterator",data:=.fields #[.ref a,.int 0 0,.int vs.length 0,.int ep 0] }) (t':=s1.toks) fun b o e=>Qa _ e
 have nA:a≠s1.heap.objs.size:=Qt (Ql ho)
 refine ⟨s1.heap.objs.size,[s1.heap.objs.size],_,_,_,rfl,I2,aAR a _ o es ep hd kvs,?_,fun b hb=>?_,q o (I1.nf hq)⟩
 ·refine ⟨_,Qe _ rfl,rfl,?_⟩
  rw [kv.length]; rfl
 ·have e:b=s1.heap.objs.size:=by simpa using hb
  subst e
  exact I1.fpOk (Qi _) (by rw [aK (Ne.symm nA)]; exact I1.hok.fresh (Qi _))
def aFu (H0:Hp) (t:TS):TS:=fun D σ H=>t { D with nx:=fun σ' H'=>∃ a o kvs,H' a=some (.frz o (.dK kvs))/\NF H0 a/\D.nx σ' (upd H' a (.dK kvs)) } σ H
theorem zY {st:Stmt} {t:TS} (h:PS X st t):PS X st (aFu X.H₀ t):=by
 intro pins s σ H D I q
 refine thn (h pins s σ H _ I q) fun f s1 z=>?_
 cases f with
 | next =>
  obtain ⟨σ',H',I',a,o,kvs,e,nf,k⟩:=z
  exact ⟨σ',_,I'.thaw e nf,k⟩
 | brk=>exact z
 | cont=>exact z
 | ret u=>exact z
end
theorem aBS {a:Addr} {o:Obj} {kvs:List (Key×V)} {g:TG} {tb:TS} {D:Ends} {σ:St} {H:Hp} (Pv:Nat->St->Hp->Prop) (h0:Pv 0 σ H) (hl:∀ i σ H,i<=kvs.length->Pv i σ H->H a=some (.frz o (.dK kvs)))
  (hs:∀ i p σ H,kvs[i]?=some p->Pv i σ H->g (kV p.1) σ H fun σ2 H2=>tb { D with nx:=Pv (i+1),ct:=Pv (i+1),bk:=D.nx } σ2 H2) (hd:∀ σ H,Pv kvs.length σ H->D.nx σ H) :
  ∃ W:Nat->Nat->St->Hp->Prop,(∃ m,W 0 m σ H)/\∀ i m σ H,W i m σ H ->
   ((Itd a o kvs).stop i H/\D.nx σ H)∨((Itd a o kvs).go i H/\∃ N:St->Hp->Prop,(∀ σ' H',N σ' H'->∃ m',m' < m/\W (i+1) m' σ' H')/\∀ x H',(Itd a o kvs).yld i H x H'->g x σ H' fun σ2 H2=>tb { D with nx:=N,ct:=N,bk:=D.nx } σ2 H2):=by
 refine ⟨fun i m σ H=>m=kvs.length - i/\i<=kvs.length/\Pv i σ H,⟨kvs.length,by simp,Jm _,h0⟩,?_⟩
 rintro i m σ H ⟨rfl,hi,p⟩
 have q:=hl i σ H hi p
 by_cases hlt:i < kvs.length
 ·refine .inr ⟨⟨q,hlt⟩,Pv (i+1),fun σ' H' p'=>⟨kvs.length - (i+1),by omega,rfl,hlt,p'⟩,fun x H' y=>?_⟩
  obtain ⟨rfl,v,hv,rfl⟩:=y
  exact hs i v σ H' hv p
 ·have e:i=kvs.length:=by omega
  subst e
  exact .inl ⟨⟨q,rfl⟩,hd σ H p⟩
def aEC (tk tv:TE):TE:=fun σ H Q=>∀ p,H p=none->tk σ (upd H p (.dK [])) fun x H1=>tv σ H1 fun y H2=>∃ k,x=kV k/\H2 p=some (.dK [])/\Q (.ref p) (upd H2 p (.dK [(k,y)]))
section
variable {X:Cx} {pos:Pos} {ek ev:Expr} {tk tv:TE}
theorem aBT (hk:PE X ek tk) (hv:PE X ev tv) (he:evalEachOpt [some ek] X.env = [some (eval ek X.env)]:=by rfl) (he2:evalEach [ev] X.env = [eval ev X.env]:=by rfl):PE X (.Dict [some ek] [ev] pos) (aEC tk tv):=by
 intro pins s σ H Q I h
 have I0:Inv X pins σ (upd H s.heap.objs.size (.dK [])) { s with heap:=s.heap.push { cls:=.type "dict",data:=.dict #[] } }:=I.laid (a:=s.heap.objs.size) (o:=.dK []) (t':=s.toks) (fun _ _ q=>Qa _ q) (Qi _) (wD s.heap I.big)
 have h0:=h s.heap.objs.size (I.hok.fresh (Qi _))
 refine wpAny_Dict_pairs (knd:=cG X.prog X.w) (pairs:=[(eval ek X.env,do let x<-eval ev X.env; standAt pos; pure x)]) (by rw [he,he2]; rfl) (by simp) (by simp) ?_
 refine evalPairs_cons (thn (hk pins _ σ _ _ I0 h0) fun kv s1 hx9=>?_)
 obtain ⟨x,H1,I1,r1,q1⟩:=hx9
 refine wpAny_bind (thn (hv pins _ σ _ _ I1 q1) fun vv s2 hx9=>?_)
 obtain ⟨y,H2,I2,r2,q2⟩:=hx9
 refine wpAny_bind (wpAny_standAt (wpAny_pure (evalPairs_nil ?_)))
 obtain ⟨k,rfl,hp,q⟩:=q2
 obtain ⟨hz,hs,vs,kv',dd⟩:bL X.prog X.w H2 s2.heap s.heap.objs.size (.dK []):=I2.hok _ _ hp
 have ev0:vs = []:=by
  have:=kv'.length
  exact Zi.mp this.symm
 subst ev0
 refine ⟨[(k,vv)],⟨sI r1,rfl,trivial⟩,dd,fun h' dd' sb=>?_⟩
 have em:merged ([]:List (Key×Value)) [(k,vv)] = [(k,vv)]:=by simp [merged,stored]
 rw [em] at dd'
 obtain ⟨o',es',ep',ho',_⟩:=id dd'
 have mu:Mut (H2 s.heap.objs.size):=by rw [hp]; trivial
 refine ⟨.ref s.heap.objs.size,_,tW (t':=s2.toks+1) I2 mu sb ⟨_,ho'⟩ (aBQ (kvs:=[(k,y)]) (by simp [sizeLine_eq]) hs (.cons ⟨rfl,r2⟩ .nil) dd'),rfl,q⟩
end
section
variable {prog:Program} {w:World} {A:Around} {E:Value->Shared->Prop} {s:Shared}
def iG (h:Heap) (u:Value) (i:Int) (v:Value):Prop:=∃ p,u=.ref p/\((∃ its:Array Value,h.IsTuple p its/\0<=i/\i < 1000/\its[i.toNat]?=some v)∨∃ its:Array Value,h.IsList p its/\0<=i/\i < 1000/\its[i.toNat]?=some v)
theorem iG.keeps {h h':Heap} {u:Value} {i:Int} {v:Value} (x:iG h u i v) (k:∀ b o,h.get? b=some o->h'.get? b=some o):iG h' u i v:=by
 obtain ⟨p,rfl,⟨its,⟨o,ho,r⟩,q⟩ | ⟨its,⟨o,ho,r⟩,q⟩⟩:=x
 ·exact ⟨p,rfl,.inl ⟨its,⟨o,k _ _ ho,r⟩,q⟩⟩
 ·exact ⟨p,rfl,.inr ⟨its,⟨o,k _ _ ho,r⟩,q⟩⟩
theorem mK {i:Int} {n:Nat} (h0:0<=i) (h1:i.toNat < n):seqIndex? i n=some i.toNat:=by
 unfold seqIndex?
 have e:¬ (i < 0):=by omega
 simp only [e,if_false]
 have e2:(decide (0<=i) && decide (i < (n:Int)))=true:=by simp; omega
 rw [if_pos e2]
theorem aDe {env:Env} {vn xn:Str} {p1 p2 p3:Pos} {m:Str->Option Value} {c:Addr} {u v:Value} {i:Int} {t:Tok} {Q:Value->Shared->Prop} (hk:env.scope.kind=.function) (hv:env.kindOf vn=some .free) (hx:env.kindOf xn=some .local)
  (hc:env.cells.lookup vn=some c) (hC:s.heap.IsCell c (some u)) (hn:s.heap.Ns env.locals m) (hm:m xn=some (.int i t)) (hI:iG s.heap u i v) (h:Q v s)
  (d1:(vn==("__debug__" : Str))=false) (d2:(vn==("__classdict__" : Str))=false) (d3:(xn==("__debug__" : Str))=false) :
  wpAny (model prog w) A (eval (.Subscript (.Name vn p1) (.Name xn p2) p3) env) Q E s:=by
 refine Subscript_ (wpAny_Name (wpAny_loadName_free hk hv hc hC ?_ d2) d1)
 refine wpAny_Name (wpAny_loadName_local hk hx hn hm ?_) d3
 obtain ⟨p,rfl,⟨its,hp,i0,i1,e⟩ | ⟨its,hp,i0,i1,e⟩⟩:=hI
 ·have hlt:i.toNat < its.size:=(Array.getElem?_eq_some_iff.mp e).1
  exact subscriptTail_builtinR (x:=v) hp.typeIs slot_tuple_getitem.lookup
   (getItem_tuple (j:=i.toNat) (Q:=fun r s'=>r=v/\Q r s') hp (by omega) (by omega) (mK i0 hlt) e ⟨rfl,h⟩)
 ·have hlt:i.toNat < its.size:=(Array.getElem?_eq_some_iff.mp e).1
  exact subscriptTail_builtinR (x:=v) hp.typeIs slot_list_getitem.lookup
   (wpAny_getItem_list (Q:=fun r s'=>r=v/\Q r s') hp (by omega) (by omega) e ⟨rfl,h⟩)
theorem aBU {f c c':Addr} {q nm vn xn:Str} {params:Arguments} {scope:Scope} {cl:List (Str×Addr)} {pm ctv u v:Value} {p1 p2 p3:Pos} {i:Int} {t:Tok} {Q:Value->Shared->Prop} (hroom:A.depth < recursionLimit) (hlim:s.heap.NoLimit)
  (hf:s.heap.get? f=some { cls:=.type "function",data:=.func (PySem.W.kla_fn nm q params (.Subscript (.Name vn p1) (.Name xn p2) p3) scope cl pm (.ref c') ctv) }) (hcd:s.heap.CodeRec (.ref c') q)
  (hbind:bindArgs (PySem.W.kla_fn nm q params (.Subscript (.Name vn p1) (.Name xn p2) p3) scope cl pm (.ref c') ctv) ⟨[.int i t],[]⟩=pure [(xn,.int i t)])
  (hx:scope.names.lookup xn=some .local) (hv:scope.names.lookup vn=some .free) (hco:scope.isCoroutine=false) (hgen:scope.isGenerator=false) (hk:scope.kind=.function) (hcell:∀ x∈scope.names,x.2≠.cell)
  (hc:cl.lookup vn=some c) (hC:s.heap.IsCell c (some u)) (hI:iG s.heap u i v) (h:∀ h' tk,(∀ b o,s.heap.get? b=some o->h'.get? b=some o)->Q v { s with heap:=h',toks:=tk })
  (d1:(vn==("__debug__" : Str))=false) (d2:(vn==("__classdict__" : Str))=false) (d3:(xn==("__debug__" : Str))=false) :
  wpAny (model prog w) A (call (.ref f) [.int i t]) Q E s:=by
 refine wpAny_call (PySem.W.kla_callFunE hroom hf rfl hco hgen rfl hcd ?_)
 rw [hbind]
 refine wpAny_pure (wpAny_newFunctionEnv hcell (fun y hy=>by rw [Qr.mp hy]; exact hx) (fun h₁ hns hsb=>⟨hlim.fresh _ hsb,?_⟩) hk)
 have hk₁:∀ b o,s.heap.get? b=some o->h₁.get? b=some o:=fun b o e=>hsb.extBut b o (Qt (Ql e)) (Qa _ e)
 obtain ⟨oc,hoc,hdc⟩:=hC
 refine PySem.W.kla_codeExpr (aDe (env:=newEnv scope s.heap.objs.size mainGlobals cl (q ++ ".<locals>.") (some f) (.ref c') none builtinsNs) (m:=fun x=>[(xn,Value.int i t)].reverse.lookup x) (t:=t) hk hv hx hc ⟨oc,hk₁ _ _ hoc,hdc⟩ hns ?_ (hI.keeps hk₁) (h h₁ _ hk₁) d1 d2 d3)
 simp [List.lookup]
section
variable {R:Result->Shared->Prop} {I:Addr} {fp wr:List Addr} {n:Nat} {Pv:Nat->Value->Prop} {St:Nat->Heap->Prop} {f:Addr} {kf:Nat->Int} {L:List (Addr×Obj)}
def aBV (prog:Program) (w:World) (A:Around) (f:Addr) (L:List (Addr×Obj)) (n:Nat) (Pv:Nat->Value->Prop) (kf:Nat->Int):Prop :=
 ∀ i v (s:Shared) (Q:Value->Shared->Prop) (E:Value->Shared->Prop),i < n->Pv i v->(∀ p∈L,s.heap.get? p.1=some p.2) ->
  (∀ h' tk t,(∀ b o,s.heap.get? b=some o->h'.get? b=some o)->Q (.int (kf i) t) { s with heap:=h',toks:=tk })->wpAny (model prog w) A (call (.ref f) [v]) Q E s
abbrev btK (kf:Nat->Int):Nat->Nat->Bool:=fun i j=>decide (kf i < kf j)
theorem tY (W:Walks prog w A.in1 I fp wr n Pv St) (hkey:aBV prog w A.in1 f L n Pv kf) (S:Addr) (hSf:S∉fp) (hL:∀ p∈L,p.1∉wr/\p.1≠S) :
  ∀ (k j:Nat) (s:Shared) (vb:Value) (t:Tok) (c:Nat),n - (j+1)=k->j+1<=n->St (j+1) s.heap->Pv (argBest (btK kf) j) vb ->
  s.heap.get? S=some { cls:=.type "list",dict:=none,data:=.seq #[vb,.int (kf (argBest (btK kf) j)) t] c,slots:=#[] }->(∀ p∈L,s.heap.get? p.1=some p.2) ->
  (∀ v h' tk,Pv (argBest (btK kf) (n - 1)) v->(∀ b o,b∉wr->b≠S->s.heap.get? b=some o->h'.get? b=some o)->R (.ok (.ret v)) { s with heap:=h',toks:=tk }) ->
  codeAny (model prog w) A (.builtin "min.loop" ⟨[.ref I,.ref f,.ref S],[]⟩) R s:=by
 have hSw:S∉wr:=fun h=>hSf (W.sub _ h)
 have hname:(toString "min" ++ toString ".loop" : String) = "min.loop" := by decide
 intro k
 induction k with
 | zero =>
  intro j s vb t c hk hj hst hPb hS hLs hR
  have hin:j+1=n:=by omega
  refine codeAny_builtin F.entry_min_loop ?_
  rw [Around.under_plainId F.plain_min_loop _]
  show wpAny _ A.in1 (seqItems? (.ref S) >>= _) _ _ s
  refine wpAny_bind (wpAny_seqItems hS rfl ?_)
  show wpAny _ A.in1 (tryCatch (pyNext (.ref I)) _ >>= _) _ _ s
  refine wpAny_bind (wpAny_tryCatch (W.done s _ _ (hin ▸ hst) fun h' tk kk=>?_))
  have hS':=kk S _ hSw hS
  show wpAny _ A.in1 (updateSeq S (fun _=>#[]) >>= _) _ _ _
  refine wpAny_bind ?_
  refine wpAny_updateSeq hS' rfl (wpAny_bind (wpAny_letGo (wpAny_pure ?_)))
  exact hR vb _ _ (by rw [<- hin]; exact hPb) fun b o hb hbS e=>(Qw _ _ (Ne.symm hbS)).trans (kk b o hb e)
 | succ k ih =>
  intro j s vb t c hk hj hst hPb hS hLs hR
  have hlt:j+1 < n:=by omega
  refine codeAny_builtin F.entry_min_loop ?_
  rw [Around.under_plainId F.plain_min_loop _]
  show wpAny _ A.in1 (seqItems? (.ref S) >>= _) _ _ s
  refine wpAny_bind (wpAny_seqItems hS rfl ?_)
  show wpAny _ A.in1 (tryCatch (pyNext (.ref I)) _ >>= _) _ _ s
  refine wpAny_bind (wpAny_tryCatch (W.item (j+1) s _ _ hlt hst fun v h1 tk1 hP hst1 kk1=>?_))
  have hS1:=kk1 S _ hSw hS
  show wpAny _ A.in1 (tryCatch (holding [v] (call (.ref f) [v])) _ >>= _) _ _ _
  refine wpAny_bind (wpAny_tryCatch (wpAny_holding (hkey (j+1) v _ _ _ hlt hP (fun p hp=>kk1 _ _ (hL p hp).1 (hLs p hp)) fun h2 tk2 t2 kk2=>?_)))
  have hS2:=kk2 S _ hS1
  have hst2:St (j+1+1) h2:=W.frame _ _ _ hst1 fun b _ o e=>kk2 b o e
  show wpAny _ A.in1 (tryCatch (holding [v,.int (kf (j+1)) t2] (richCompare .Lt (.int (kf (j+1)) t2) (.int (kf (argBest (btK kf) j)) t) >>= _)) _ >>= _) _ _ _
  have hcmp:CmpOf prog w A.in1 .Lt (fun i u=>∃ t,u=.int (kf i) t) (btK kf):=CmpOf.ints_lt kf fun i v h=>h
  refine wpAny_bind (wpAny_tryCatch (wpAny_holding (wpAny_bind (hcmp (j+1) (argBest (btK kf) j) _ _ _ _ _ ⟨_,rfl⟩ ⟨_,rfl⟩ ?_))))
  refine wpAny_bind (wpAny_holding (wpAny_truthy_bool ?_))
  refine wpAny_bind (wpAny_letGo (wpAny_pure ?_))
  have kk:∀ b o,b∉wr->s.heap.get? b=some o->h2.get? b=some o:=fun b o hb e=>kk2 b o (kk1 b o hb e)
  cases hb:btK kf (j+1) (argBest (btK kf) j) with
  | true =>
   simp only [if_true]
   refine wpAny_bind ?_
   refine wpAny_updateSeq hS2 rfl (wpAny_bind (wpAny_letGo ?_))
   rw [hname]
   have eb:argBest (btK kf) (j+1)=j+1:=by simp only [argBest,hb,if_true]
   refine wpAny_pure ⟨plainId_quiet F.plain_min_loop _,ih (j+1) _ v t2 _ (by omega) hlt (W.frame _ _ _ hst2 fun b hbf o e=>?_) (by rw [eb]; exact hP) (by rw [eb]; exact Jx _ hS2 rfl) (fun p hp=>?_) fun v' h' tk hP' kk'=>?_⟩
   ·exact (Qw _ _ (fun h:S=b=>hSf (by rw [h]; exact hbf))).trans e
   ·exact (Qw _ _ (Ne.symm (hL p hp).2)).trans (kk _ _ (hL p hp).1 (hLs p hp))
   ·exact hR v' h' tk hP' fun b o hb hbS e=>kk' b o hb hbS ((Qw _ _ (Ne.symm hbS)).trans (kk b o hb e))
  | false =>
   simp only [Jh,if_false]
   refine wpAny_bind (wpAny_letGo ?_)
   rw [hname]
   have eb:argBest (btK kf) (j+1)=argBest (btK kf) j:=by simp only [argBest,hb,Jh,if_false]
   refine wpAny_pure ⟨plainId_quiet F.plain_min_loop _,ih (j+1) _ vb t c (by omega) hlt hst2 (by rw [eb]; exact hPb) (by rw [eb]; exact hS2) (fun p hp=>kk _ _ (hL p hp).1 (hLs p hp)) fun v' h' tk hP' kk'=>?_⟩
   exact hR v' h' tk hP' fun b o hb hbS e=>kk' b o hb hbS (kk b o hb e)
theorem rH (W:Walks prog w A.in1 I fp wr n Pv St) (hkey:aBV prog w A.in1 f L n Pv kf) (S:Addr) (hSf:S∉fp) (hL:∀ p∈L,p.1∉wr/\p.1≠S) (hn:0 < n) {s:Shared} {c:Nat} (hst:St 0 s.heap)
  (hS:s.heap.get? S=some { cls:=.type "list",dict:=none,data:=.seq #[] c,slots:=#[] }) (hLs:∀ p∈L,s.heap.get? p.1=some p.2)
  (hR:∀ v h' tk,Pv (argBest (btK kf) (n - 1)) v->(∀ b o,b∉wr->b≠S->s.heap.get? b=some o->h'.get? b=some o)->R (.ok (.ret v)) { s with heap:=h',toks:=tk }) :
  codeAny (model prog w) A (.builtin "min.loop" ⟨[.ref I,.ref f,.ref S],[]⟩) R s:=by
 have hSw:S∉wr:=fun h=>hSf (W.sub _ h)
 have hname:(toString "min" ++ toString ".loop" : String) = "min.loop" := by decide
 refine codeAny_builtin F.entry_min_loop ?_
 rw [Around.under_plainId F.plain_min_loop _]
 show wpAny _ A.in1 (seqItems? (.ref S) >>= _) _ _ s
 refine wpAny_bind (wpAny_seqItems hS rfl ?_)
 show wpAny _ A.in1 (tryCatch (pyNext (.ref I)) _ >>= _) _ _ s
 refine wpAny_bind (wpAny_tryCatch (W.item 0 s _ _ hn hst fun v h1 tk1 hP hst1 kk1=>?_))
 have hS1:=kk1 S _ hSw hS
 show wpAny _ A.in1 (tryCatch (holding [v] (call (.ref f) [v])) _ >>= _) _ _ _
 refine wpAny_bind (wpAny_tryCatch (wpAny_holding (hkey 0 v _ _ _ hn hP (fun p hp=>kk1 _ _ (hL p hp).1 (hLs p hp)) fun h2 tk2 t2 kk2=>?_)))
 have hS2:=kk2 S _ hS1
 have hst2:St (0+1) h2:=W.frame _ _ _ hst1 fun b _ o e=>kk2 b o e
 show wpAny _ A.in1 (updateSeq S (fun _=>#[v,.int (kf 0) t2]) >>= _) _ _ _
 refine wpAny_bind ?_
 refine wpAny_updateSeq hS2 rfl ?_
 rw [hname]
 have kk:∀ b o,b∉wr->s.heap.get? b=some o->h2.get? b=some o:=fun b o hb e=>kk2 b o (kk1 b o hb e)
 refine wpAny_pure ⟨plainId_quiet F.plain_min_loop _,tY W hkey S hSf hL _ 0 _ v t2 _ rfl hn (W.frame _ _ _ hst2 fun b hbf o e=>?_) hP (Jx _ hS2 rfl) (fun p hp=>?_) fun v' h' tk hP' kk'=>?_⟩
 ·exact (Qw _ _ (fun h:S=b=>hSf (by rw [h]; exact hbf))).trans e
 ·exact (Qw _ _ (Ne.symm (hL p hp).2)).trans (kk _ _ (hL p hp).1 (hLs p hp))
 ·exact hR v' h' tk hP' fun b o hb hbS e=>kk' b o hb hbS ((Qw _ _ (Ne.symm hbS)).trans (kk b o hb e))
theorem tZ (a k:Value):argsOk "min" ⟨[a],[(Str.ofString "key",k)]⟩:=by unfold argsOk; kernel_rfl
theorem uA {id:String} {b:Builtin} {args:List Value} {kw:List (Str×Value)} {Q:Value->Shared->Prop} (hk:builtinKind id=none) (hp:plainId id=true)
  (hb:entryFor table id=some b) (ha:argsOk id ⟨args,kw⟩)
  (hc:wpAny (model prog w) A.in1 (b ⟨args,kw⟩) (fun fin s'=>match fin with
   | .done f=>(match (Except.ok f:Result) with | .ok (.ret v)=>Q v s' | .ok _=>False | .error e=>E e s')
   | .again c'=>c'.quiet=true/\codeAny (model prog w) A c' (fun r s'=>match r with | .ok (.ret v)=>Q v s' | .ok _=>False | .error e=>E e s') s') E s) :
  wpAny (model prog w) A (call (.builtin id) args kw) Q E s:=by
 refine wpAny_call (codeAny_call_builtin hp hb ?_)
 simp only [checkBuiltinCall,hk]
 cases hsig:Manifest.signature? id with
 | none=>exact wpAny_pure hc
 | some sig =>
  simp only [argsOk,hsig] at ha
  have h2:Bind.checkArgs id sig ⟨args,kw⟩=pure ():=ha
  show wpAny _ A.in1 (Bind.checkArgs id sig ⟨args,kw⟩) _ _ s
  rw [h2]; exact wpAny_pure hc
theorem uB {x:Value} {Q:Value->Shared->Prop}
  (h:wpAny (model prog w) A.in1 (pyIter x) (fun it s₂=>∃ I fp wr n Pv St kf L,it=.ref I/\Walks prog w A.in1 I fp wr n Pv St/\St 0 s₂.heap/\(∀ b∈fp,b < s₂.heap.objs.size)/\0 < n/\aBV prog w A.in1 f L n Pv kf /\
   (∀ p∈L,p.1∉wr)/\(∀ p∈L,s₂.heap.get? p.1=some p.2) /\
   ∀ v h' tk,Pv (argBest (btK kf) (n - 1)) v->(∀ b o,b∉wr->s₂.heap.get? b=some o->h'.get? b=some o)->Q v { s₂ with heap:=h',toks:=tk }) E s) :
  wpAny (model prog w) A (call (.builtin "min") [x] [(Str.ofString "key",.ref f)]) Q E s:=by
 have hname:(toString "min" ++ toString ".loop" : String) = "min.loop" := by decide
 refine uA F.kind_min F.plain_min F.entry_min (tZ _ _) ?_
 show wpAny _ A.in1 (Builtin.Builtins.bindParams "min" ["key", "default"] 0 ⟨[],[(Str.ofString "key",.ref f)]⟩ >>= _) _ _ s
 refine wpAny_bind (wpAny_of_eq (show Builtin.Builtins.bindParams "min" ["key", "default"] 0 ⟨[],[(Str.ofString "key",.ref f)]⟩=pure [some (.ref f),none] from rfl) ?_)
 refine wpAny_bind (wpAny_pure ?_)
 refine wpAny_bind (wpAny_mono h (fun it s₂ h₂=>?_) fun _ _ e=>e)
 obtain ⟨I,fp,wr,n,Pv,St,kf,L,rfl,W,hst,hfp,hn,hkey,hLw,hLs,hQ⟩:=h₂
 refine wpAny_bind (wpAny_newObj_type ?_)
 have hSf:s₂.heap.objs.size∉fp:=fun hm=>Jb _ (hfp _ hm)
 rw [hname]
 refine wpAny_pure ⟨plainId_quiet F.plain_min_loop _,rH W hkey s₂.heap.objs.size hSf (fun p hp=>⟨hLw p hp,Qt (Ql (hLs p hp))⟩) hn (W.frame _ _ _ hst fun b _ o e=>Qa _ e) (Qe _ rfl) (fun p hp=>Qa _ (hLs p hp)) fun v h' tk hP hk=>?_⟩
 exact hQ v h' tk hP fun b o hbw e=>hk b o hbw (Qt (Ql e)) (Qa _ e)
end
end
structure Lm (K:PySem.W.Frag) (mg:Str->Option Value) (base:Heap) (c P:Addr):Prop where
 hd:PySem.W.codeHdIn K c P=true
 gP:mainGlobals≠P
 bu:base.BuiltinsAt mg P
theorem lI {pos p0:Pos} {c cv:Value}:∀ {l:List Value},TriplesOk l->codeAmong pos (l++[rawInt p0.line,rawInt p0.col,c])=some cv->codeAmong pos l=some cv∨cv=c
 | [],_,e=>by
  simp only [Xy,rawInt,codeAmong] at e
  split at e
  ·exact .inr (Option.some.inj e).symm
  ·cases e
 | .int a t::.int b u::x::r,h,e=>by
  simp only [Yh,codeAmong] at e ⊢
  split
  ·rename_i hc
   rw [if_pos hc] at e
   exact .inl e
  ·rename_i hc
   rw [if_neg hc] at e
   exact lI (show TriplesOk r from h) e
section
variable {X:Cx} {pins:List (Addr×Obj)} {σ:St} {H:Hp} {s:Shared} {c P c':Addr} {q:Str} {ps:Array Value} {h':Heap} {t':Nat}
theorem Inv.grown {p0:Pos} (I:Inv X pins σ H s) (hT:H P=some (.tab q)) (hx:Heap.ExtBut P s.heap h') (hge:s.heap.objs.size<=c') (hcr:h'.CodeRec (.ref c') q) (hP0:s.heap.get? P=some (PySem.W.tabObj ps)) (hPt:h'.get? P=some (PySem.W.tabObj (ps++#[rawInt p0.line,rawInt p0.col,.ref c']))) :
  Inv X pins σ (upd H c' (.own P)) { s with heap:=h',toks:=t' }:=by
 have hf:H c'=none:=I.hok.fresh hge
 have hn:∀ b,H b=none->b≠P:=fun b n z=>by rw [z,hT] at n; cases n
 have hc:∀ b u,H b=some u->b≠c':=fun b u n z=>by rw [z,hf] at n; cases n
 have hlt:∀ b o,s.heap.get? b=some o->b≠c':=fun b o e=>Qt (Qp (Ql e) hge)
 obtain ⟨c2,oc,vs,tq,ec,hoc,hdc,hv⟩:=hcr
 cases ec
 refine I.un ⟨fun b o e n _ _=>hx b o (hn b n) e,fun b o e n _ _=>⟨o.slots,hx b o (hn b n) e⟩,fun b o e n _=>by rw [aK (hlt b o e)]; exact n,fun b o e _=>?_,fun b xs e=>by rw [aK (hc b _ e)]; exact e,fun b o u e=>by rw [aK (hc b _ e)]; exact e,fun b ps e=>⟨#[],by rw [aK (hc b _ e),e]; simp⟩⟩ ?_
 ·by_cases hb:b=P
  ·subst hb; exact ⟨_,hPt⟩
  ·exact ⟨o,hx b o hb e⟩
 ·intro b u e
  by_cases hb:b=c'
  ·subst hb
   rw [aC] at e; cases e
   exact ⟨oc,hoc⟩
  ·rw [aK hb] at e
   by_cases hbP:b=P
   ·subst hbP
    rw [hT] at e; cases e
    obtain ⟨ps0,e0,tr,r⟩:∃ ps:Array Value,s.heap.get? b=some { cls:=.none,data:=.fields ps }/\TriplesOk ps.toList/\∀ (pos:Pos) (cv:Value),codeAmong pos ps.toList=some cv->∃ (c:Addr) (o:Obj) (vs:Array Value) (t:Tok),cv=.ref c/\H c=some (.own b)/\s.heap.get? c=some o/\o.data=.fields vs/\(vs[1]?:Option Value)=some (.str q t):=I.hok b _ hT
    rw [hP0] at e0
    cases e0
    have el:(ps++#[rawInt p0.line,rawInt p0.col,Value.ref c']).toList=ps.toList++[rawInt p0.line,rawInt p0.col,.ref c']:=by simp
    refine ⟨_,hPt,by rw [el]; exact TriplesOk_snoc _ _ _ _ tr,fun pos cv z=>?_⟩
    rw [el] at z
    rcases lI tr z with z | rfl
    ·obtain ⟨c3,o3,vs3,t3,r1,r2,r3,r4⟩:=r pos cv z
     have n3:c3≠b:=fun y=>by rw [y,hT] at r2; cases r2
     exact ⟨c3,o3,vs3,t3,r1,by rw [aK (hc _ _ r2)]; exact r2,hx _ _ n3 r3,r4⟩
    ·exact ⟨c',oc,vs,tq,rfl,aC,hoc,hdc,hv⟩
   ·refine (I.hok b u e).stay (fun d v hd z=>hx d v ?_ z) (fun d z=>by rw [aK (hc _ _ z)]; exact z) fun d xs z=>by rw [aK (hc _ _ z)]; exact z
    rcases hd with rfl | hd
    ·exact hbP
    ·intro z
     rw [z,hT] at hd; cases hd
theorem aBW {params:Arguments} {body:Expr} {scope:Scope} {pos:Pos} {cl:List (Str×Addr)} {Q:Value->Shared->Prop} {E:Value->Shared->Prop} (I:Inv X pins σ H s) (Z:Lm X.K X.mg X.base c P) (hcode:X.env.code=.ref c) (hT:H P=some (.tab q)) (hq:X.env.qual ++ "<lambda>" = q)
  (hdef:defaultsOf params X.env=([],[])) (hcl:closureFor scope X.env=pure cl)
  (h:∀ f c' ctv pm s' H',Inv X pins σ H' s'->aF H H'->(∀ b o,b≠P->s.heap.get? b=some o->s'.heap.get? b=some o) ->
   s'.heap.get? f=some { cls:=.type "function",data:=.func (PySem.W.kla_fn "<lambda>" q params body scope cl pm (.ref c') ctv) }->s'.heap.CodeRec (.ref c') q->Q (.ref f) s') :
  wpAny (model X.prog X.w) X.A (eval (.Lambda params body scope pos) X.env) Q E s:=by
 obtain ⟨ps,hP,tr,r⟩:∃ ps:Array Value,s.heap.get? P=some { cls:=.none,data:=.fields ps }/\TriplesOk ps.toList/\∀ (pos:Pos) (cv:Value),codeAmong pos ps.toList=some cv->∃ (c:Addr) (o:Obj) (vs:Array Value) (t:Tok),cv=.ref c/\H c=some (.own P)/\s.heap.get? c=some o/\o.data=.fields vs/\(vs[1]?:Option Value)=some (.str q t):=I.hok P _ hT
 have hg:s.heap.Ns mainGlobals X.mg:=I.mod.glob.keeps I.bk
 have C:PySem.W.CodeHd s.heap c P:=PySem.W.codeHd_of_K I.kIn Z.hd
 have hb:s.heap.BuiltinsAt X.mg P:=by
  obtain ⟨bm,o,e1,e2,e3,e4,e5,e6⟩:=Z.bu
  exact ⟨bm,o,e1,e2,e3,e4,I.bk _ _ e5,e6⟩
 refine PySem.W.kla_eval hdef ?_
 rw [hq]
 cases hf:codeAmong pos ps.toList with
 | none =>
  refine PySem.W.kla_makeFunction hcl I.ok.glob hg hcode C hP tr hf Z.gP hb fun c' ctv h' tk hx hge hlt hcr hPt=>?_
  have I1:Inv X pins σ (upd H c' (.own P)) { s with heap:=h',toks:=tk }:=I.grown hT hx hge hcr hP hPt
  have I2:=I1.kept (h':=h'.push (PySem.W.kla_obj "<lambda>" q params body scope cl ((X.mg "__name__").getD .none) c' ctv)) (t':=tk) fun b o e=>Qa _ e
  refine h _ c' ctv _ _ _ I2 (aF.new (I.hok.fresh hge)) (fun b o hbP e=>Qa _ (hx b o hbP e)) (Qe _ rfl) ?_
  obtain ⟨c2,oc,vs,tq,ec,hoc,r⟩:=hcr
  exact ⟨c2,oc,vs,tq,ec,Qa _ hoc,r⟩
 | some cv =>
  obtain ⟨c',o,vs,t,rfl,r2,r3,r4,r5⟩:=r pos cv hf
  refine PySem.W.kla_makeFunctionHit hcl I.ok.glob hg hcode C hP tr hf hb fun ctv h' tk kk hsz=>?_
  have I2:=I.kept (h':=h'.push { cls:=.type "function",data:=.func (PySem.W.kla_fn "<lambda>" q params body scope cl ((X.mg "__name__").getD .none) (.ref c') ctv) }) (t':=tk) fun b o e=>Qa _ (kk b o e)
  exact h _ c' ctv _ _ _ I2 (aF.refl H) (fun b o _ e=>Qa _ (kk b o e)) (Qe _ rfl) ⟨c',o,vs,t,rfl,Qa _ (kk _ _ r3),r4,r5⟩
end
theorem lJ (num:Nat->Int):∀ k,∀ l,l < argBest (btK num) k->num (argBest (btK num) k) < num l
 | 0=>fun l hl=>by simp [argBest] at hl
 | k+1=>fun l hl=>by
  have h2:=(argBest_lt num k).2
  simp only [argBest] at hl ⊢
  by_cases hc:num (k+1) < num (argBest (btK num) k)
  ·rw [if_pos (show btK num (k+1) (argBest (btK num) k)=true from decide_eq_true hc)] at hl ⊢
   have:=h2 l (by omega)
   show num (k+1) < num l
   have e:num (argBest (fun i j=>decide (num i < num j)) k)=num (argBest (btK num) k):=rfl
   omega
  ·rw [if_neg (show ¬ btK num (k+1) (argBest (btK num) k)=true from fun z=>hc (of_decide_eq_true z))] at hl ⊢
   exact lJ num k l hl
def zZ (K:PySem.W.Frag) (H:Hp) (x:V) (ns:List Int):Prop:=∃ a,x=.ref a/\(SqL K H a (ns.map V.int)∨SqT K H a (ns.map V.int)∨∃ kvs:List (Key×V),H a=some (.dK kvs)/\kvs.map (·.1)=ns.map Sum.inl)
def aAa (K:PySem.W.Frag) (H:Hp) (u:V) (n k:Int):Prop:=0<=n/\n < 1000/\∃ a xs,u=.ref a/\(SqT K H a xs∨SqL K H a xs)/\xs[n.toNat]?=some (.int k)
def aDf (K:PySem.W.Frag) (P:Addr) (q:Str) (iv:Nat) (te:TE):TE:=fun σ H Q=>te σ H fun x H1=>∃ (ns:List Int) (kf:Int->Int) (u:V),zZ K H1 x ns/\0 < ns.length/\H1 P=some (.tab q)/\σ[iv]?=some (some u)/\(∀ n∈ns,aAa K H1 u n (kf n)) /\
 ∀ (j:Nat) (m:Int) (H2:Hp),aF H1 H2->ns[j]?=some m->(∀ n∈ns,kf m<=kf n)->(∀ (l:Nat) (n:Int),l < j->ns[l]?=some n->kf m < kf n)->Q (.int m) H2
section
variable {X:Cx} {pins:List (Addr×Obj)} {σ:St} {H:Hp} {s:Shared}
theorem yD {A:Around} {x:V} {u:Value} {ns:List Int} {Q:Value->Shared->Prop} {E:Value->Shared->Prop} (hh:A.handled=none) (I:Inv X pins σ H s) (hx:zZ X.K H x ns) (r:bJ x u)
  (h:∀ (It:Addr) fp (Pv:Nat->Value->Prop) St s2,Walks X.prog X.w A It fp [It] ns.length Pv St->(∀ i v,Pv i v->∃ n t,ns[i]?=some n/\v=.int n t)->St 0 s2.heap->(∀ b∈fp,b < s2.heap.objs.size)->s.heap.objs.size<=It ->
   (∀ b o,s.heap.get? b=some o->s2.heap.get? b=some o)->(∃ h2,s2={ s with heap:=h2 })->Q (.ref It) s2):wpAny (model X.prog X.w) A (pyIter u) Q E s:=by
 obtain ⟨a,rfl,hx⟩:=hx
 cases r
 rcases hx with hx | hx | ⟨kvs,hx,hk⟩
 ·obtain ⟨its,rv,p,hz⟩:=I.list hx
  have hl:=rv.length
  rw [Qb] at hl
  have ht:=p.isList
  have hlt:a < s.heap.objs.size:=by obtain ⟨o,e,_⟩:=ht; exact Ql e
  have hne:a≠s.heap.objs.size:=Qt hlt
  have W0:=Walks.list (prog:=X.prog) (w:=X.w) (A:=A) hh s.heap.objs.size a hne its.toArray
  rw [show its.toArray.size=ns.length by rw [Qg,hl]] at W0
  refine wpAny_pyIter_list ht (h s.heap.objs.size [s.heap.objs.size,a] _ _ { s with heap:=s.heap.push { cls:=.type "list_iterator",data:=.fields #[.ref a,.int 0 0] } } W0 (fun i v e=>?_) ⟨⟨_,Qe _ rfl,rfl,rfl⟩,ht.push _⟩ (fun b hb=>?_) (Qi _) (fun b o e=>Qa _ e) ⟨_,rfl⟩)
  ·have e':its[i]?=some v:=by simpa using e
   obtain ⟨hi,_⟩:=Qc.mp e'
   obtain ⟨w',ew,rw'⟩:=rv.get (i:=i) (x:=.int (ns[i]'(by omega))) (by rw [Qh,Qd (show i < ns.length by omega)]; rfl)
   rw [e'] at ew; cases ew
   obtain ⟨t,rfl⟩:=rw'
   exact ⟨_,t,Qd (show i < ns.length by omega),rfl⟩
  ·show b < (s.heap.push _).objs.size
   rw [Qz]
   simp only [Qk,Qn,or_false] at hb
   rcases hb with hb | hb
   ·rw [hb]; exact Zf _
   ·rw [hb]; exact Jy hlt
 ·obtain ⟨its,rv,p,hz⟩:=I.tuple hx
  have hl:=rv.length
  rw [Qb] at hl
  have ht:s.heap.IsTuple a its.toArray:=p
  have hlt:a < s.heap.objs.size:=by obtain ⟨o,e,_⟩:=ht; exact Ql e
  have hne:a≠s.heap.objs.size:=Qt hlt
  have W0:=Walks.tuple (prog:=X.prog) (w:=X.w) (A:=A) hh s.heap.objs.size a hne its.toArray
  rw [show its.toArray.size=ns.length by rw [Qg,hl]] at W0
  refine wpAny_pyIter_tuple ht (h s.heap.objs.size [s.heap.objs.size,a] _ _ { s with heap:=s.heap.push { cls:=.type "tuple_iterator",data:=.fields #[.ref a,.int 0 0] } } W0 (fun i v e=>?_) ⟨⟨_,Qe _ rfl,rfl,rfl⟩,ht.push _⟩ (fun b hb=>?_) (Qi _) (fun b o e=>Qa _ e) ⟨_,rfl⟩)
  ·have e':its[i]?=some v:=by simpa using e
   obtain ⟨hi,_⟩:=Qc.mp e'
   obtain ⟨w',ew,rw'⟩:=rv.get (i:=i) (x:=.int (ns[i]'(by omega))) (by rw [Qh,Qd (show i < ns.length by omega)]; rfl)
   rw [e'] at ew; cases ew
   obtain ⟨t,rfl⟩:=rw'
   exact ⟨_,t,Qd (show i < ns.length by omega),rfl⟩
  ·show b < (s.heap.push _).objs.size
   rw [Qz]
   simp only [Qk,Qn,or_false] at hb
   rcases hb with hb | hb
   ·rw [hb]; exact Zf _
   ·rw [hb]; exact Jy hlt
 ·obtain ⟨hz,hs,vs,kv,dd⟩:bL X.prog X.w H s.heap a (.dK kvs):=I.hok a _ hx
  obtain ⟨ep,da⟩:=dd.dictAt
  have hl:kvs.length=vs.length:=kv.length
  have hln:vs.length=ns.length:=by
   have:=congrArg Ys hk
   rw [Qb,Qb] at this
   omega
  have hlt:=da.lt_size
  have hne:a≠s.heap.objs.size:=Qt hlt
  have W0:=Walks.dictKeys (prog:=X.prog) (w:=X.w) (A:=A) (knd:=cG X.prog X.w) hh s.heap.objs.size a hne vs ep
  rw [hln] at W0
  refine wpAny_pyIter_dict hs da (h s.heap.objs.size [s.heap.objs.size,a] _ _ { s with heap:=s.heap.push { cls:=.type "dict_keyiterator",data:=.fields #[.ref a,.int 0 0,.int vs.length 0,.int ep 0] } } W0 (fun i v e=>?_) ⟨⟨_,Qe _ rfl,rfl,by rw [hln]; rfl⟩,da.push _⟩ (fun b hb=>?_) (Qi _) (fun b o e=>Qa _ e) ⟨_,rfl⟩)
  ·obtain ⟨k,x,hi,hk2⟩:=e
   have e1:(vs.map (·.1))[i]?=some k:=by rw [Qh,hi]; rfl
   rw [<- kv.keys,hk,Qh] at e1
   cases q:ns[i]? with
   | none=>rw [q] at e1; cases e1
   | some n =>
    rw [q] at e1
    have:k=Sum.inl n:=(Option.some.inj e1).symm
    subst this
    obtain ⟨t,rfl⟩:bJ (.int n) v:=wE hk2
    exact ⟨n,t,rfl,rfl⟩
  ·show b < (s.heap.push _).objs.size
   rw [Qz]
   simp only [Qk,Qn,or_false] at hb
   rcases hb with hb | hb
   ·rw [hb]; exact Zf _
   ·rw [hb]; exact Jy hlt
theorem aAb {u:V} {uv:Value} {n k:Int} (I:Inv X pins σ H s) (hk:aAa X.K H u n k) (r:bJ u uv):∃ t,iG s.heap uv n (.int k t):=by
 obtain ⟨h0,h1,a,xs,rfl,hx | hx,he⟩:=hk
 ·cases r
  obtain ⟨its,rv,p,hz⟩:=I.tuple hx
  obtain ⟨w',ew,t,rfl⟩:=rv.get he
  exact ⟨t,a,rfl,.inl ⟨its.toArray,p,h0,h1,by simpa using ew⟩⟩
 ·cases r
  obtain ⟨its,rv,p,hz⟩:=I.list hx
  obtain ⟨w',ew,t,rfl⟩:=rv.get he
  exact ⟨t,a,rfl,.inr ⟨its.toArray,p.isList,h0,h1,by simpa using ew⟩⟩
theorem iG.obj {h:Heap} {u:Value} {i:Int} {v:Value} (x:iG h u i v):∃ p o,u=.ref p/\h.get? p=some o/\∀ h':Heap,h'.get? p=some o->iG h' u i v:=by
 obtain ⟨p,rfl,⟨its,⟨o,ho,r⟩,q⟩ | ⟨its,⟨o,ho,r⟩,q⟩⟩:=x
 ·exact ⟨p,o,rfl,ho,fun h' e=>⟨p,rfl,.inl ⟨its,⟨o,e,r⟩,q⟩⟩⟩
 ·exact ⟨p,o,rfl,ho,fun h' e=>⟨p,rfl,.inr ⟨its,⟨o,e,r⟩,q⟩⟩⟩
theorem aAS {e:Expr} {te:TE} {p kpos lpos p1 p2 p3 pos:Pos} {params:Arguments} {scope:Scope} {vn xn:Str} {c P:Addr} {q:Str} (iv:Nat) (hc:X.calm=true) (hr:Room 1 X.A) (hg:Gl X "min") (hm:X.mg "min" = none) (Z:Lm X.K X.mg X.base c P) (hcode:X.env.code=.ref c) (hq:X.env.qual ++ "<lambda>" = q)
  (he:PE X e te) (hN:X.N[iv]?=some vn) (hkv:X.env.kindOf vn=some .cell)
  (hdef:defaultsOf params X.env=([],[]):=by rfl) (hcl:eS X.env scope.names []=(match X.env.cells.lookup vn with | some c=>[(vn,c)] | none=>[]):=by rfl)
  (hfr:∀ y∈scope.names,y.2=.free->y.1=vn:=by decide +kernel)
  (hbind:∀ (cl:List (Str×Addr)) (pm cdv ctv:Value) (i:Int) (t:Tok),bindArgs (PySem.W.kla_fn "<lambda>" q params (.Subscript (.Name vn p1) (.Name xn p2) p3) scope cl pm cdv ctv) ⟨[.int i t],[]⟩=pure [(xn,.int i t)]:=by intro _ _ _ _ _ _; rfl)
  (hx:scope.names.lookup xn=some .local:=by rfl) (hv:scope.names.lookup vn=some .free:=by rfl) (hco:scope.isCoroutine=false:=by rfl) (hgen:scope.isGenerator=false:=by rfl) (hk:scope.kind=.function:=by rfl) (hcell:∀ x∈scope.names,x.2≠.cell:=by decide +kernel)
  (d1:(vn==("__debug__" : Str))=false:=by decide) (d2:(vn==("__classdict__" : Str))=false:=by decide) (d3:(xn==("__debug__" : Str))=false:=by decide)
  (hs1:starEach [e] X.env = [(false,eval e X.env)]:=by rfl) :
  PE X (.Call (.Name "min" p) [e] [⟨some "key",.Lambda params (.Subscript (.Name vn p1) (.Name xn p2) p3) scope lpos,kpos⟩] pos) (aDf X.K P q iv te):=by
 intro pins s σ H Q I h
 refine wpAny_Call_Name_kw (iB (u:=.builtin "min") I hg hm (by decide +kernel) ?_)
 have hpa:PA X [e] (lZ te qZ):=aA he aE hs1
 refine callWith_kw (thn (hpa pos pins s σ H (fun vs H1=>match vs with
   | [x] => ∃ (ns : List Int) (kf : Int -> Int) (u : V), zZ X.K H1 x ns /\ 0 < ns.length /\ H1 P = some (.tab q) /\ σ[iv]? = some (some u) /\ (∀ n ∈ ns, aAa X.K H1 u n (kf n)) /\
       ∀ (j:Nat) (m:Int) (H2:Hp),aF H1 H2->ns[j]?=some m->(∀ n∈ns,kf m<=kf n)->(∀ (l:Nat) (n:Int),l < j->ns[l]?=some n->kf m < kf n)->Q (.int m) H2
   | _=>False) I h) fun us s1 ⟨vs,H1,I1,r1,q1⟩=>?_) (by rw [hs1]; rfl) (by rw [hs1]; rfl)
 match vs,r1,q1 with
 | [x],r1,q1 =>
  obtain ⟨ns,kf,u,hit,hpos,hT,hu,hkeys,k⟩:=q1
  obtain ⟨xv,rfl,rx⟩:=gG r1
  -- the cell of the name
  obtain ⟨m1,hns1,hl1⟩:=id I1.loc
  obtain ⟨uv,ru,lk⟩:=hl1 iv vn u hN hu (.inr (.inl hkv))
  obtain ⟨cc,hcc,hIc⟩:∃ cc,X.env.cells.lookup vn=some cc/\s1.heap.IsCell cc (some uv):=by
   rcases lk with ⟨z,_⟩ | ⟨_,z⟩
   ·rw [hkv] at z; cases z
   ·exact z
  have hclo:closureFor scope X.env=pure [(vn,cc)]:=by
   rw [xR fun y hy z=>⟨cc,by rw [hfr y hy z]; exact hcc⟩,hcl,hcc]
  refine kws_cons (aBW I1 Z hcode hT hq hdef hclo fun f c' ctv pm s2 H2 I2 sm kk hf hcr=>kws_nil ?_)
  show wpAny (model X.prog X.w) X.A (call (.builtin "min") [xv] [(Str.ofString "key",.ref f)]) _ _ _
  have hit2:zZ X.K H2 x ns:=by
   obtain ⟨a,rfl,z | z | ⟨kvs,z,y⟩⟩:=hit
   ·exact ⟨a,rfl,.inl (sm.seqL z)⟩
   ·exact ⟨a,rfl,.inr (.inl (sm.seqT z))⟩
   ·exact ⟨a,rfl,.inr (.inr ⟨kvs,sm _ _ z,y⟩)⟩
  have hkeys2:∀ n∈ns,aAa X.K H2 u n (kf n):=fun n hn=>by
   obtain ⟨h0,h1,a,xs,rfl,z | z,y⟩:=hkeys n hn
   ·exact ⟨h0,h1,a,xs,rfl,.inl (sm.seqT z),y⟩
   ·exact ⟨h0,h1,a,xs,rfl,.inr (sm.seqL z),y⟩
  -- what stays through the loop
  obtain ⟨fo,efo,hf⟩:∃ fo:Obj,fo={ cls:=.type "function",data:=.func (PySem.W.kla_fn "<lambda>" q params (.Subscript (.Name vn p1) (.Name xn p2) p3) scope [(vn,cc)] pm (.ref c') ctv) }/\s2.heap.get? f=some fo:=⟨_,rfl,hf⟩
  obtain ⟨c2,oc,cvs,tq,ec,hoc,hdc,hcv⟩:=hcr
  cases ec
  obtain ⟨ocl,hocl,hdcl⟩:s2.heap.IsCell cc (some uv):=by
   obtain ⟨o,ho,hd⟩:=hIc
   have nP:cc≠P:=fun z=>by rw [z] at hcc; have:=I1.freeC _ _ hcc; rw [hT] at this; cases this
   exact ⟨o,kk _ _ nP ho,hd⟩
  obtain ⟨mc,⟨oL,esL,epL,hoL,hdL,rL⟩,hlim⟩:=I2.nolimit
  have n0:ns[0]?=some (ns[0]):=Qd hpos
  obtain ⟨t0,it0⟩:=aAb I2 (hkeys2 _ (Qj n0)) ru
  obtain ⟨pu,ou,eu,hou,_⟩:=it0.obj
  refine uB (f:=f) (yD (A:=X.A.in1) (I2.ok.hd hc) I2 hit2 rx fun It fp Pv St s3 W hPv hst hfp hIt hk3 hx9=>?_)
  obtain ⟨h3,e3⟩:=hx9
  subst e3
  refine ⟨It,fp,[It],ns.length,Pv,St,fun i=>kf (ns.getD i 0),[(f,fo),(c',oc),(cc,ocl),(cStatics,oL),(pu,ou)],rfl,W,hst,hfp,hpos,?_,?_,?_,fun v h' tk hP kk'=>?_⟩
  ·intro i v s4 Q4 E4 hi hPi hL hQ4
   obtain ⟨n,t,hn,rfl⟩:=hPv i v hPi
   have eg:ns.getD i 0=n:=by rw [Jp,hn]; rfl
   obtain ⟨tk,itk⟩:=aAb I2 (hkeys2 _ (Qj hn)) ru
   have it4:iG s4.heap uv n (.int (kf n) tk):=by
    obtain ⟨p',o',e',ho',hh⟩:=itk.obj
    rw [eu] at e'; cases e'
    rw [hou] at ho'; cases ho'
    exact hh _ (hL (pu,ou) (by simp))
   have rm:X.A.in1.depth < recursionLimit:=(Room.in1 hr).depth
   refine aBU (cl:=[(vn,cc)]) (c:=cc) rm ⟨mc,⟨oL,esL,epL,hL (cStatics,oL) (by simp),hdL,rL⟩,hlim⟩ (by rw [<- efo]; exact hL (f,fo) (by simp)) ⟨c',oc,cvs,tq,rfl,hL (c',oc) (by simp),hdc,hcv⟩ (hbind _ _ _ _ _ _) hx hv hco hgen hk hcell (by simp [List.lookup]) ⟨ocl,hL (cc,ocl) (by simp),hdcl⟩ it4 (fun h5 tk5 k5=>?_) d1 d2 d3
   have:=hQ4 h5 tk5 tk k5
   dsimp only at this
   rw [eg] at this
   exact this
  ·intro pr hpr hz
   have hlt:∀ b o,s2.heap.get? b=some o->b≠It:=fun b o e=>Qt (Qp (Ql e) hIt)
   simp only [Qr] at hz
   simp only [Qk,Qn,or_false] at hpr
   rcases hpr with rfl | rfl | rfl | rfl | rfl
   ·exact hlt _ _ hf hz
   ·exact hlt _ _ hoc hz
   ·exact hlt _ _ hocl hz
   ·exact hlt _ _ hoL hz
   ·exact hlt _ _ hou hz
  ·intro pr hpr
   simp only [Qk,Qn,or_false] at hpr
   rcases hpr with rfl | rfl | rfl | rfl | rfl
   ·exact hk3 _ _ hf
   ·exact hk3 _ _ hoc
   ·exact hk3 _ _ hocl
   ·exact hk3 _ _ hoL
   ·exact hk3 _ _ hou
  ·obtain ⟨n,t,hn,rfl⟩:=hPv _ v hP
   have I3:Inv X pins σ H2 { s2 with heap:=h',toks:=tk }:=I2.kept fun b o e=>kk' b o (by simp; exact Qt (Qp (Ql e) hIt)) (hk3 b o e)
   have b1:=argBest_lt (fun i=>kf (ns.getD i 0)) (ns.length - 1)
   have b2:=lJ (fun i=>kf (ns.getD i 0)) (ns.length - 1)
   have hat:∀ i y,ns[i]?=some y->ns.getD i 0=y:=fun i y e=>by rw [Jp,e]; rfl
   refine ⟨.int n,H2,I3,⟨t,rfl⟩,k _ n H2 sm hn (fun y hy=>?_) (fun l y hl hy=>?_)⟩
   ·obtain ⟨i,hi⟩:=Ji.mp hy
    have:=b1.2 i (by have:=(Qc.mp hi).1; omega)
    have e1:=hat _ _ hn
    have e2:=hat _ _ hi
    show kf n<=kf y
    rw [<- e1,<- e2]; exact this
   ·have:=b2 l hl
    have e1:=hat _ _ hn
    have e2:=hat _ _ hy
    rw [<- e1,<- e2]; exact this
end
def aBX (ts:List (Addr×Str)) (H:Hp):Prop:=(∀ b,H b=none∨(∃ o xs,H b=some (.frz o (.lst xs)))∨∃ q,H b=some (.tab q)/\(b,q)∈ts)/\∀ p∈ts,H p.1=some (.tab p.2)
theorem pY {h:Heap} {c P:Addr} (C:PySem.W.CodeHd h c P) (e:h.get? P=some (PySem.W.tabObj #[])):isCodeTable h P:=(C.tab e).isCodeTable
theorem aAT {P:Program} {w:World} {K:PySem.W.Frag} {mg mb:Str->Option Value} {CX:CXT} {k:Nat} {fa a:Addr} {fd:FuncData} {x:Str} {sp:Sp} {s₁:Shared} {vs:List Value} {ns:List Int} {ts:List (Addr×Str)}
  (KX:K.In s₁.heap) (hns:s₁.heap.Ns mainGlobals mg) (hb:s₁.heap.Ns builtinsNs mb) (hbb:∀ x:Str,x ≠ "__name__" -> mb x=bootBuiltins x) (hlim:s₁.heap.NoLimit) (hmod:∃ mm,s₁.heap.Ns sysModules mm) (hg:s₁.gens = #[])
  (hbm:∃ bm ob,mg "__builtins__" = some (.ref bm)/\bm≠builtinsNs/\s₁.heap.get? bm=some ob/\ob.cls=.type "module" /\ ob.dict=some builtinsNs/\ob.data=.plain)
  (hts:∀ p∈ts,s₁.heap.get? p.1=some (PySem.W.tabObj #[])/\K.lookup p.1=none/\∃ c,PySem.W.CodeHd s₁.heap c p.1) (hnd:(ts.map (·.1)).Nodup)
  (ha:s₁.heap.get? a=some { cls:=.type "list",data:=.seq vs.toArray }) (hi:IntsAre vs ns) (hl:ns.length<=sizeLine) (hr:Room k callerA)
  (F:∀ base:Heap,K.In base->base.Ns mainGlobals mg->(∀ p∈ts,base.BuiltinsAt mg p.1)->FnOk P w K mg base CX k fa fd [x] sp) (hbind:∀ (s:Shared) (u:Value),BindsTo s fd ⟨[u],[]⟩ [(x,u)])
  (hsp:∀ H:Hp,aBX ts H->SqL K H a (ns.map V.int)->sp [.ref a] H (fun v H'=>v=.bl true/\∀ p∈ts,H' p.1=some (.tab p.2)) fun _ _ _=>False)
  (hCX:∀ H e s',CX [] H s₁ (fun _ _ _=>False) e s'->False) :
  codeAny (model P w) callerA (.call (.ref fa) ⟨[.ref a],[]⟩) (fun r s'=>r=.ok (.ret (.bool true))/\OldK s₁.heap s'.heap/\s'.os=s₁.os/\AllBare s'.gens) s₁:=by
 have rv:=mY hi
 have lenV:=hi.length
 have na:∀ p∈ts,p.1≠a:=fun p hp z=>by
  have:=(hts p hp).1
  rw [z,ha] at this; cases this
 -- from an abstract heap in which nothing but the script and the tables may be tracked
 have core:∀ H:Hp,aBX ts H->SqL K H a (ns.map V.int)->HOk P w H s₁.heap->(∀ b,H b≠none->b=a∨∃ q,(b,q)∈ts)->(H a≠none->K.lookup a=none) ->
   codeAny (model P w) callerA (.call (.ref fa) ⟨[.ref a],[]⟩) (fun r s'=>r=.ok (.ret (.bool true))/\OldK s₁.heap s'.heap/\s'.os=s₁.os/\AllBare s'.gens) s₁:=by
  intro H hO hS hok hA hK
  have base_of:∀ {b:Addr} {o:Obj},s₁.heap.get? b=some o->H b=none->(qY s₁.heap H).get? b=some o:=fun e n=>aBa e n
  have noA:∀ {b:Addr} {o:Obj} {es:Array DictEntry} {ep:Nat},s₁.heap.get? b=some o->o.data=.dict es ep->H b=none:=fun {b o es ep} e d=>by
   cases q:H b with
   | none=>rfl
   | some u =>
    rcases hA b (by rw [q]; simp) with e' | ⟨q',e'⟩
    ·subst e'
     rw [ha] at e; cases e
     have d':Data.seq vs.toArray _=Data.dict es ep:=d
     cases d'
    ·have:=(hts _ e').1
     have e2:s₁.heap.get? b=some (PySem.W.tabObj #[]):=this
     rw [e] at e2; cases e2
     have d':Data.fields _=Data.dict es ep:=d
     cases d'
  have nsK:∀ {b:Addr} {m:Str->Option Value},s₁.heap.Ns b m->(qY s₁.heap H).Ns b m:=fun {b m} ⟨o,es,ep,e,d,r⟩=>⟨o,es,ep,base_of e (noA e d),d,r⟩
  have hKb:K.In (qY s₁.heap H):=fun b o e=>base_of (KX b o e) (by
   cases q:H b with
   | none=>rfl
   | some u =>
    rcases hA b (by rw [q]; simp) with e' | ⟨q',e'⟩
    ·subst e'
     rw [hK (by rw [q]; simp)] at e; cases e
    ·have:=(hts _ e').2.1
     have e2:K.lookup b=none:=this
     rw [e] at e2; cases e2)
  have hBu:∀ p∈ts,(qY s₁.heap H).BuiltinsAt mg p.1:=fun p hp=>by
   obtain ⟨bm,ob,b1,b2,b3,b4,b5,b6⟩:=hbm
   have hn:H bm=none:=by
    cases q:H bm with
    | none=>rfl
    | some u =>
     rcases hA bm (by rw [q]; simp) with e' | ⟨q',e'⟩
     ·subst e'
      rw [ha] at b3; cases b3
      have d':Data.seq vs.toArray _=Data.plain:=b6
      cases d'
     ·have e2:s₁.heap.get? bm=some (PySem.W.tabObj #[]):=(hts _ e').1
      rw [b3] at e2; cases e2
      have d':Data.fields _=Data.plain:=b6
      cases d'
   refine ⟨bm,ob,b1,b2,fun z=>?_,fun z=>?_,base_of b3 hn,b4,b5,b6⟩
   ·obtain ⟨o,es,ep,e,d,r⟩:=hns
    rw [<- z,b3] at e; cases e
    rw [b6] at d; cases d
   ·have e2:s₁.heap.get? p.1=some (PySem.W.tabObj #[]):=(hts _ hp).1
    rw [<- z,b3] at e2; cases e2
    have d':Data.fields _=Data.plain:=b6
    cases d'
  have hM:Mod K mg (qY s₁.heap H):=⟨hKb,nsK hns,⟨mb,nsK hb,hbb⟩,let ⟨mc,h1,h2⟩:=hlim; ⟨mc,nsK h1,h2⟩,let ⟨mm,h1⟩:=hmod; ⟨mm,nsK h1⟩⟩
  have e0:Env0 P w K mg (qY s₁.heap H) callerA [] s₁ H:=⟨rfl,hM,fun b o e=>aCD e,Yz (aAx _ _),trivial,fun b hb=>absurd (show b∈([]:List Addr) from hb) (by simp),hok,.of_eq hg⟩
  refine codeAny_mono ((F _ hKb (nsK hns) hBu).run callerA [] s₁ H ⟨[.ref a],[]⟩ [.ref a] [.ref a] _ _ hr e0 (hbind s₁ (.ref a)) (.cons rfl .nil) (hsp H hO hS)) fun r s' h=>?_
  cases r with
  | error e=>exact (hCX H e s' h).elim
  | ok fl =>
   cases fl with
   | next=>exact False.elim h
   | brk=>exact False.elim h
   | cont=>exact False.elim h
   | ret u =>
    obtain ⟨v,H',os,bare,un,hok',r',q,qt⟩:=h
    have q':v=.bl true:=q
    subst q'
    obtain rfl:u=Value.bool true:=r'
    have keep:∀ b o,(∀ q,(b,q)∉ts)->s₁.heap.get? b=some o->s'.heap.get? b=some o:=fun b o hb e=>by
     cases q:H b with
     | none=>exact un.keep b o e q (by intro z; exact absurd (show b∈([]:List Addr) from z) (by simp)) (by simp)
     | some u =>
      rcases hO.1 b with z | ⟨ob,xs,z⟩ | ⟨q',z,zm⟩
      ·rw [q] at z; cases z
      ·have z2:=un.frzs b ob _ z
       obtain ⟨e1,_⟩:=hok b _ z
       obtain ⟨e2,_⟩:=hok' b _ z2
       rw [e] at e1; cases e1
       exact e2
      ·exact absurd zm (hb q')
    have grown:∀ b o q,(b,q)∈ts->s₁.heap.get? b=some o->isCodeTable s₁.heap b/\o=PySem.W.tabObj #[]/\∃ ps,s'.heap.get? b=some (PySem.W.tabObj ps):=fun b o q hm e=>by
     obtain ⟨h1,h2,c,h3⟩:=hts _ hm
     have h1':s₁.heap.get? b=some (PySem.W.tabObj #[]):=h1
     rw [e] at h1'
     obtain ⟨ps,hps,_⟩:bL P w H' s'.heap b (.tab q):=hok' b _ (qt _ hm)
     exact ⟨pY h3 h1,Option.some.inj h1',ps,hps⟩
    refine ⟨rfl,⟨fun b o e=>?_,fun b o e=>?_⟩,os,bare⟩
    ·by_cases hb:∃ q,(b,q)∈ts
     ·obtain ⟨q,hm⟩:=hb
      obtain ⟨ht,rfl,ps,hP⟩:=grown b o q hm e
      exact .inr (.inl ⟨ht,rfl,#[],ps,rfl,by rw [Array.empty_append]; exact hP⟩)
     ·exact .inl (keep b o (fun q z=>hb ⟨q,z⟩) e)
    ·by_cases hb:∃ q,(b,q)∈ts
     ·obtain ⟨q,hm⟩:=hb
      obtain ⟨_,_,ps,hP⟩:=grown b o q hm e
      exact ⟨_,hP⟩
     ·exact ⟨o,keep b o (fun q z=>hb ⟨q,z⟩) e⟩
 -- the tables
 have look:∀ {b:Addr} {q:Str},ts.lookup b=some q->(b,q)∈ts:=fun {b q} e=>by
  clear hts hnd hsp core na F
  induction ts with
  | nil=>cases e
  | cons p r ih =>
   rw [Jo] at e
   cases hb:b==p.1 with
   | true=>rw [hb] at e; cases e; rw [eq_of_beq hb]; exact .head _
   | false=>rw [hb] at e; exact .tail _ (ih e)
 have look2:∀ {b:Addr} {q:Str},(b,q)∈ts->ts.lookup b=some q:=fun {b q} e=>by
  clear hts hsp core na look F
  induction ts with
  | nil=>cases e
  | cons p r ih =>
   rw [Jo]
   rw [Qu,Xh] at hnd
   rcases Qk.mp e with rfl | e
   ·simp
   ·have:(b==p.1)=false:=by
     rw [beq_eq_false_iff_ne]
     intro z
     exact hnd.1 (Jl.mpr ⟨(b,q),e,z⟩)
    rw [this]
    exact ih hnd.2 e
 have tabOk:∀ (H:Hp) (b:Addr) (q:Str),(b,q)∈ts->bL P w H s₁.heap b (.tab q):=fun H b q hm=>⟨#[],(hts _ hm).1,trivial,fun pos cv z=>by simp [codeAmong] at z⟩
 cases hk:K.lookup a with
 | some o =>
  have e:=KX a o hk
  rw [ha] at e
  cases e
  refine core (fun b=>(ts.lookup b).map HO.tab) ⟨fun b=>?_,fun p hp=>by show (ts.lookup p.1).map HO.tab=_; rw [look2 (q:=p.2) hp]; rfl⟩ (.inr ⟨_,vs.toArray,_,hk,rfl,rfl,rfl,by rw [Qg,lenV]; exact hl,by simpa using rv⟩) (fun b u z=>?_) (fun b z=>?_) fun z=>?_
  ·cases q:ts.lookup b with
   | none=>exact .inl (by show (ts.lookup b).map HO.tab=none; rw [q]; rfl)
   | some y=>exact .inr (.inr ⟨y,by show (ts.lookup b).map HO.tab=_; rw [q]; rfl,look q⟩)
  ·have z':(ts.lookup b).map HO.tab=some u:=z
   cases q:ts.lookup b with
   | none=>rw [q] at z'; cases z'
   | some y=>rw [q] at z'; cases z'; exact tabOk _ _ _ (look q)
  ·have z':(ts.lookup b).map HO.tab≠none:=z
   cases q:ts.lookup b with
   | none=>rw [q] at z'; exact absurd rfl z'
   | some y=>exact .inr ⟨y,look q⟩
  ·exfalso
   have z':(ts.lookup a).map HO.tab≠none:=z
   cases q:ts.lookup a with
   | none=>rw [q] at z'; exact absurd rfl z'
   | some y=>exact na _ (look q) rfl
 | none =>
  have noa:ts.lookup a=none:=by
   cases q:ts.lookup a with
   | none=>rfl
   | some y=>exact absurd rfl (na _ (look q))
  refine core (fun b=>if b=a then some (.frz { cls:=.type "list",data:=.seq vs.toArray } (.lst (ns.map V.int))) else (ts.lookup b).map HO.tab) ⟨fun b=>?_,fun p hp=>?_⟩ (.inl (.inr ⟨{ cls:=.type "list",data:=.seq vs.toArray },if_pos rfl⟩)) (fun b u z=>?_) (fun b z=>?_) fun _=>hk
  ·by_cases hb:b=a
   ·exact .inr (.inl ⟨_,_,if_pos hb⟩)
   ·cases q:ts.lookup b with
    | none=>exact .inl ((if_neg hb).trans (by rw [q]; rfl))
    | some y=>exact .inr (.inr ⟨y,(if_neg hb).trans (by rw [q]; rfl),look q⟩)
  ·exact (if_neg (na p hp)).trans (by rw [look2 (q:=p.2) hp]; rfl)
  ·by_cases hb:b=a
   ·have z':=(if_pos hb).symm.trans z
    cases z'
    subst hb
    exact ⟨ha,by rw [Qb]; exact hl,vs,_,rv,ha⟩
   ·have z':=(if_neg hb).symm.trans z
    cases q:ts.lookup b with
    | none=>rw [q] at z'; cases z'
    | some y=>rw [q] at z'; cases z'; exact tabOk _ _ _ (look q)
  ·by_cases hb:b=a
   ·exact .inl hb
   ·cases q:ts.lookup b with
    | none=>exact absurd ((if_neg hb).trans (by rw [q]; rfl)) z
    | some y=>exact .inr ⟨y,look q⟩
theorem aBY {l:PySem.W.OpenLaw} {n k:Nat} {q:Program} {loose:List Str} {XP:(Str->Option Value)->Heap->Prop} {YP:World->Heap->Prop} {d:DefRec} {K:Params->PySem.W.Frag} {CX:World->CXT} {sp:World->Sp} {x:Str} {ts:List (Addr×Str)}
  (hn:l.most=some n) (hn2:n<=sizeLine) (hdf:d.params.defaults = []) (hr:Room k callerA) (hq:importsNone q=true)
  (hY:∀ (w:World) (h:Heap),YP w h->(K w.params).In h)
  (hts:∀ (w:World) (h:Heap),YP w h->∀ p∈ts,h.get? p.1=some (PySem.W.tabObj #[])/\(K w.params).lookup p.1=none/\∃ c,PySem.W.CodeHd h c p.1) (hnd:(ts.map (·.1)).Nodup)
  (F:∀ (w:World) (mg:Str->Option Value) (fa:Addr) (h:Heap),(K w.params).In h->h.Ns mainGlobals mg->mg d.name=some (.ref fa) ->
   ∃ fd:FuncData,(∀ (s:Shared) (u:Value),BindsTo s fd ⟨[u],[]⟩ [(x,u)]) /\
    ∀ base:Heap,(K w.params).In base->base.Ns mainGlobals mg->(∀ p∈ts,base.BuiltinsAt mg p.1)->FnOk l.prog w (K w.params) mg base (CX w) k fa fd [x] (sp w))
  (hsp:∀ (w:World) (H:Hp) (a:Addr) (ns:List Int),ns.length<=n->aBX ts H->SqL (K w.params) H a (ns.map V.int)->sp w [.ref a] H (fun v H'=>v=.bl true/\∀ p∈ts,H' p.1=some (.tab p.2)) fun _ _ _=>False)
  (hCX:∀ (w:World) (H:Hp) (s:Shared) (e:Value) (s':Shared),CX w [] H s (fun _ _ _=>False) e s'->False) :
  PySem.W.WalkO q loose XP YP l.row.toRowW d [] (fun f vs=>PySem.call f vs):=by
 refine Att.attach_call hn hdf fun w s₀ s₁ mg mb fa o pm cd doc a vs ns G Y ho hd hcd hmg hobj hints hlen hg=>?_
 have KX:=hY w _ Y
 obtain ⟨fd,hb,hF⟩:=F w mg fa _ KX G.T.g hmg
 exact aAT KX G.T.g G.T.b G.T.builtins G.T.nolimit (let ⟨mm,h1,_⟩:=(G.T.seer hq).mods; ⟨mm,h1⟩) hg G.T.bmain (hts w _ Y) hnd hobj hints (Qx hlen hn2) hr hF hb (fun H hO hS=>hsp w H a ns hlen hO hS) fun H e s'=>hCX w H s₁ e s'
section
variable {P:Program} {w:World} {K:PySem.W.Frag} {mg:Str->Option Value} {base:Heap}
theorem Fun.okC {x qual:Str} {st:Stmt} {f c:Addr} {fd:FuncData} {N ps:List Str} {k:Nat} {sp:Sp} (F:Fun K x qual st f fd) (hc:fd.code=.ref c) (S:FnScope N ps (aO st)) (len:∀ vs H Q E,sp vs H Q E->vs.length=ps.length)
  (hbody:∀ (A:Around) (outer:List Env) (s:Shared) (H:Hp) (vs:List V) (Q:VK) (E:XK),Room k (A.deeper (envOfC qual (aO st) s.heap.objs.size f (.ref c)))->sp vs H Q E ->
   ∃ t,PSs (lM CX0 P w K mg base N qual (aO st) f (.ref c) A outer s H E).nox (cN st) t/\t { nx:=fun _ H'=>Q .non H',rt:=Q } (lG N vs) H):FnOk P w K mg base CX0 (k+1) f fd ps sp:=by
 obtain ⟨oc,od,kV,doc,pm,an,cdv,ct,osl,rfl,lk,hcd⟩:=F.ex
 have e:cdv=.ref c:=hc
 subst e
 refine aBk lk hcd S len fun A outer s H vs Q E hr hsp=>?_
 obtain ⟨t,h,q⟩:=hbody A outer s H vs Q E hr hsp
 exact ⟨t,h.nox,q⟩
end
abbrev fM (h:Heap) (z TI TO:Addr) (f0:Value) (f1:Bool):Prop :=
 h.get? z=some { cls:=.type "zip",dict:=none,data:=.fields #[f0,.bool f1,.bool false,.ref TI,.ref TO],slots:=#[] }
def F0 (f:Value):Prop:=f=.none∨∃ a t,f=.int a t
theorem wF {M:Model} {A:Around} {E:Value->Shared->Prop} {s:Shared} {a:Addr} {Q:Option Obj->Shared->Prop} (h:Q (s.heap.get? a) s):wpAny M A (loadIfAlive a) Q E s:=fun Γ p _=>by
 show Sem.wp M Γ (.loadIfAlive a .pure) _ _ p s
 rw [Sem.wp_loadIfAlive]
 exact (Sem.wp_pure ..).mpr h
section
variable {prog:Program} {w:World} {A:Around} {E:Value->Shared->Prop} {s:Shared} {z TI TO i1 i2 l1 l2:Addr} {n1 n2:Nat} {P1 P2:Nat->Value->Prop} {st1 st2:Nat->Heap->Prop}
theorem aBZ {f0:Value} {f1:Bool} {Q:Bool->Shared->Prop} (hz:fM s.heap z TI TO f0 f1) (hf:F0 f0) (h1:Q true s) (h2:∀ h' b,fM h' z TI TO f0 b->Heap.SameBut z s.heap h'->Q false { s with heap:=h' }) :
  wpAny (model prog w) A (Builtin.SmallTypes.ownedTupleIsFree (.ref z)) Q E s:=by
 unfold Builtin.SmallTypes.ownedTupleIsFree
 rcases hf with rfl | ⟨a,t,rfl⟩
 ·exact wpAny_bind (wpAny_field hz rfl (x:=.none) rfl (wpAny_pure h1))
 ·refine wpAny_bind (wpAny_field hz rfl (x:=.int a t) rfl ?_)
  show wpAny (model prog w) A (loadIfAlive a.toNat >>= _) Q E s
  refine wpAny_bind (wF ?_)
  cases hq:s.heap.get? a.toNat with
  | none=>exact wpAny_pure h1
  | some o =>
   show wpAny (model prog w) A (field (.ref z) 1 >>= _) Q E s
   refine wpAny_bind (wpAny_field hz rfl (x:=.bool f1) rfl ?_)
   cases f1 with
   | true=>exact wpAny_pure (h2 s.heap true hz (Heap.SameBut.refl _ _))
   | false =>
    show wpAny (model prog w) A (setField (.ref z) 1 (.bool true) >>= _) Q E s
    refine wpAny_bind (wpAny_setField_rec hz (by simp) fun g hg b=>wpAny_pure (h2 g true hg b))
theorem aB0 {k:Nat} {a b f0:Value} {f1:Bool} {Q:Value->Shared->Prop} (D:ZipApart z TI TO i1 i2 l1 l2) (S1:Sub prog w i1 l1 n1 P1 st1) (S2:Sub prog w i2 l2 n2 P2 st2)
  (hz:fM s.heap z TI TO f0 f1) (hf:F0 f0) (hTI:IsPair s.heap TI (.ref i1) (.ref i2)) (hTO:IsPair s.heap TO a b) (h1:st1 k s.heap) (h2:st2 k s.heap) (k1:k < n1) (k2:k < n2)
  (hQ:∀ h' x y f0' f1',P1 k x->P2 k y->F0 f0'->fM h' z TI TO f0' f1'->(∃ a b,IsPair h' TO a b)->st1 (k+1) h'->st2 (k+1) h'->IsPair h' s.heap.objs.size x y->h'.objs.size=s.heap.objs.size+1 ->
   (∀ c o,c≠z->c≠TO->c≠i1->c≠i2->s.heap.get? c=some o->h'.get? c=some o)->Q (.ref s.heap.objs.size) { s with heap:=h' }) :
  wpAny (model prog w) A (Builtin.«zip.__next__» ⟨[.ref z],[]⟩) (fun fin s'=>∃ v,fin=.done (.ret v)/\Q v s') E s:=by
 refine wpAny_bind (m:=field (.ref z) 2) (wpAny_field hz rfl (x:=.bool false) rfl ?_)
 refine wpAny_bind (m:=field (.ref z) 3) (wpAny_field hz rfl (x:=.ref TI) rfl ?_)
 refine wpAny_bind (wpAny_seqItems hTI rfl ?_)
 refine wpAny_bind (m:=Builtin.SmallTypes.ownedTupleIsFree (.ref z)) (aBZ hz hf ?_ fun h0 fb hz0 b0=>?_)
 ·simp only [if_true]
  refine wpAny_bind (wpAny_rule ?_)
  refine wpAny_bind (wpAny_field hz rfl (x:=.ref TO) rfl ?_)
  refine wpAny_bind (wpAny_setField_rec hz (by simp) fun g1 hz1 b1=>?_)
  have hz1':fM g1 z TI TO .ellipsis f1:=hz1
  refine wpAny_bind ?_
  simp only [Zo,Zt,Xs,Ze]
  have s1:st1 k g1:=S1.keep _ _ _ h1 fun c hc o e=>b1.extBut c o (by rcases hc with r | r <;> rw [r]; exact D.i1z; exact D.l1z) e
  refine wpAny_bind (wpAny_bind (wpAny_onRaise ?_))
  refine wpAny_bind (m:=Builtin.SmallTypes.nextOf (.ref i1)) (S1.item _ k _ _ _ k1 s1 fun x g2 px t1 b2=>wpAny_pure ?_)
  have o2:IsPair g2 TO a b:=b2.extBut _ _ D.TOi1 (b1.extBut _ _ D.TOz hTO)
  refine wpAny_bind (wpAny_seqItems o2 rfl ?_)
  refine wpAny_bind (wpAny_updateSeq_pair o2 fun g3 o3 b3=>?_)
  have o3':IsPair g3 TO x b:=o3
  refine wpAny_bind (wpAny_letGo (wpAny_pure ?_))
  have s2:st2 k g3:=S2.keep _ _ _ h2 fun c hc o e=>by
   rcases hc with r | r
   ·rw [r] at e ⊢; exact b3.extBut _ _ D.TOi2.symm (b2.extBut _ _ D.i12.symm (b1.extBut _ _ D.i2z e))
   ·rw [r] at e ⊢; exact b3.extBut _ _ D.l2TO (b2.extBut _ _ D.l2i1 (b1.extBut _ _ D.l2z e))
  refine wpAny_bind (wpAny_bind (wpAny_onRaise ?_))
  refine wpAny_bind (m:=Builtin.SmallTypes.nextOf (.ref i2)) (S2.item _ k _ _ _ k2 s2 fun y g4 py t2 b4=>wpAny_pure ?_)
  have o4:IsPair g4 TO x b:=b4.extBut _ _ D.TOi2 o3'
  refine wpAny_bind (wpAny_seqItems o4 rfl ?_)
  refine wpAny_bind (wpAny_updateSeq_pair o4 fun g5 o5 b5=>?_)
  have o5':IsPair g5 TO x y:=o5
  refine wpAny_bind (wpAny_letGo (wpAny_pure (wpAny_pure ?_)))
  refine wpAny_bind (wpAny_seqItems o5' rfl ?_)
  refine wpAny_bind (wpAny_newTuple ?_)
  have sz:g5.objs.size=s.heap.objs.size:=by rw [b5.1,b4.1,b3.1,b2.1,b1.1]
  have z5:fM g5 z TI TO .ellipsis f1:=b5.extBut _ _ D.TOz.symm (b4.extBut _ _ D.i2z.symm (b3.extBut _ _ D.TOz.symm (b2.extBut _ _ D.i1z.symm hz1')))
  have kp5:∀ c o,c≠z->c≠TO->c≠i1->c≠i2->s.heap.get? c=some o->g5.get? c=some o:=fun c o c1 c2 c3 c4 e =>
   b5.extBut _ _ c2 (b4.extBut _ _ c4 (b3.extBut _ _ c2 (b2.extBut _ _ c3 (b1.extBut _ _ c1 e))))
  have t1':st1 (k+1) g5:=S1.keep _ _ _ t1 fun c hc o e=>by
   rcases hc with r | r
   ·rw [r] at e ⊢; exact b5.extBut _ _ D.TOi1.symm (b4.extBut _ _ D.i12 (b3.extBut _ _ D.TOi1.symm e))
   ·rw [r] at e ⊢; exact b5.extBut _ _ D.l1TO (b4.extBut _ _ D.l1i2 (b3.extBut _ _ D.l1TO e))
  have t2':st2 (k+1) g5:=S2.keep _ _ _ t2 fun c hc o e=>by
   rcases hc with r | r
   ·rw [r] at e ⊢; exact b5.extBut _ _ D.TOi2.symm e
   ·rw [r] at e ⊢; exact b5.extBut _ _ D.l2TO e
  have zlt:g5.objs.size≠z:=Jv (Ql z5)
  refine wpAny_bind (m:=Builtin.SmallTypes.ownedTupleHandOut (.ref z) (.ref g5.objs.size)) ?_
  unfold Builtin.SmallTypes.ownedTupleHandOut
  have z6:fM (g5.push { cls:=.type "tuple",data:=.seq #[x,y] }) z TI TO .ellipsis f1:=Qa _ z5
  refine wpAny_bind (wpAny_setField_rec z6 (by simp) fun g7 z7 b7=>?_)
  have z7':fM g7 z TI TO (rawInt g5.objs.size) f1:=z7
  refine wpAny_setField_rec z7' (by simp) fun g8 z8 b8=>?_
  have z8':fM g8 z TI TO (rawInt g5.objs.size) false:=z8
  have up:∀ c o,c≠z->g5.get? c=some o->g8.get? c=some o:=fun c o c1 e=>b8.extBut _ _ c1 (b7.extBut _ _ c1 (Qa _ e))
  have T8:IsPair g8 g5.objs.size x y:=b8.extBut _ _ zlt (b7.extBut _ _ zlt (Qe _ rfl))
  have sz8:g8.objs.size=s.heap.objs.size+1:=by rw [b8.1,b7.1,Qz,sz]
  rw [sz] at z8' T8
  refine wpAny_pure ⟨_,rfl,?_⟩
  show Q (.ref g5.objs.size) _
  rw [sz]
  refine hQ g8 x y _ _ px py (.inr ⟨_,_,rfl⟩) z8' ⟨_,_,up _ _ D.TOz o5'⟩ (S1.keep _ _ _ t1' fun c hc o e=>up c o (by rcases hc with r | r <;> rw [r]; exact D.i1z; exact D.l1z) e) (S2.keep _ _ _ t2' fun c hc o e=>up c o (by rcases hc with r | r <;> rw [r]; exact D.i2z; exact D.l2z) e) T8 sz8 fun c o c1 c2 c3 c4 e=>up c o c1 (kp5 c o c1 c2 c3 c4 e)
 ·simp only [Jh,if_false]
  have s1:st1 k h0:=S1.keep _ _ _ h1 fun c hc o e=>b0.extBut c o (by rcases hc with r | r <;> rw [r]; exact D.i1z; exact D.l1z) e
  rw [<- Array.forIn_toList]
  simp only [Xs,Ze]
  refine wpAny_bind (wpAny_bind (wpAny_bind (wpAny_holding ?_)))
  refine wpAny_bind (m:=Builtin.SmallTypes.nextOf (.ref i1)) (S1.item _ k _ _ _ k1 s1 fun x g2 px t1 b2=>wpAny_pure ?_)
  refine wpAny_pure ?_
  have s2:st2 k g2:=S2.keep _ _ _ h2 fun c hc o e=>by
   rcases hc with r | r
   ·rw [r] at e ⊢; exact b2.extBut _ _ D.i12.symm (b0.extBut _ _ D.i2z e)
   ·rw [r] at e ⊢; exact b2.extBut _ _ D.l2i1 (b0.extBut _ _ D.l2z e)
  refine wpAny_bind (wpAny_bind (wpAny_holding ?_))
  refine wpAny_bind (m:=Builtin.SmallTypes.nextOf (.ref i2)) (S2.item _ k _ _ _ k2 s2 fun y g4 py t2 b4=>wpAny_pure ?_)
  refine wpAny_pure (wpAny_pure ?_)
  refine wpAny_bind (wpAny_newTuple ?_ (by show 2<=sizeLine; rw [sizeLine_eq]; decide))
  have sz:g4.objs.size=s.heap.objs.size:=by rw [b4.1,b2.1,b0.1]
  have z4:fM g4 z TI TO f0 fb:=b4.extBut _ _ D.i2z.symm (b2.extBut _ _ D.i1z.symm hz0)
  have kp4:∀ c o,c≠z->c≠i1->c≠i2->s.heap.get? c=some o->g4.get? c=some o:=fun c o c1 c3 c4 e=>b4.extBut _ _ c4 (b2.extBut _ _ c3 (b0.extBut _ _ c1 e))
  have t1':st1 (k+1) g4:=S1.keep _ _ _ t1 fun c hc o e=>by
   rcases hc with r | r
   ·rw [r] at e ⊢; exact b4.extBut _ _ D.i12 e
   ·rw [r] at e ⊢; exact b4.extBut _ _ D.l1i2 e
  refine wpAny_pure ⟨_,rfl,?_⟩
  show Q (.ref g4.objs.size) _
  have T8:IsPair (g4.push { cls:=.type "tuple",data:=.seq #[x,y] }) g4.objs.size x y:=Qe _ rfl
  rw [sz] at T8 ⊢
  refine hQ _ x y _ _ px py hf (Qa _ z4) ⟨_,_,Qa _ (kp4 _ _ D.TOz D.TOi1 D.TOi2 hTO)⟩ (S1.keep _ _ _ t1' fun c hc o e=>Qa _ e) (S2.keep _ _ _ t2 fun c hc o e=>Qa _ e) T8 (by rw [Qz,sz]) fun c o c1 c2 c3 c4 e=>Qa _ (kp4 c o c1 c3 c4 e)
theorem aDg {k:Nat} {a b f0:Value} {f1:Bool} {Q:Fin->Shared->Prop} (hh:A.handled=none) (D:ZipApart z TI TO i1 i2 l1 l2) (S1:Sub prog w i1 l1 n1 P1 st1) (S2:Sub prog w i2 l2 n2 P2 st2)
  (hz:fM s.heap z TI TO f0 f1) (hf:F0 f0) (hTI:IsPair s.heap TI (.ref i1) (.ref i2)) (hTO:IsPair s.heap TO a b) (h1:st1 k s.heap) (h2:st2 k s.heap) (hend:k=n1/\k<=n2∨k=n2/\k < n1)
  (hE:∀ h' e,(∀ c o,c≠z->c≠TO->c≠i1->c≠i2->s.heap.get? c=some o->h'.get? c=some o)->(∃ o,h'.get? e=some o/\o.cls=.type "StopIteration")->E (.ref e) { s with heap:=h' }) :
  wpAny (model prog w) A (Builtin.«zip.__next__» ⟨[.ref z],[]⟩) Q E s:=by
 refine wpAny_bind (m:=field (.ref z) 2) (wpAny_field hz rfl (x:=.bool false) rfl ?_)
 refine wpAny_bind (m:=field (.ref z) 3) (wpAny_field hz rfl (x:=.ref TI) rfl ?_)
 refine wpAny_bind (wpAny_seqItems hTI rfl ?_)
 refine wpAny_bind (m:=Builtin.SmallTypes.ownedTupleIsFree (.ref z)) (aBZ hz hf ?_ fun h0 fb hz0 b0=>?_)
 ·simp only [if_true]
  refine wpAny_bind (wpAny_rule ?_)
  refine wpAny_bind (wpAny_field hz rfl (x:=.ref TO) rfl ?_)
  refine wpAny_bind (wpAny_setField_rec hz (by simp) fun g1 hz1 b1=>?_)
  have hz1':fM g1 z TI TO .ellipsis f1:=hz1
  refine wpAny_bind ?_
  simp only [Zo,Zt,Xs,Ze]
  have s1:st1 k g1:=S1.keep _ _ _ h1 fun c hc o e=>b1.extBut c o (by rcases hc with r | r <;> rw [r]; exact D.i1z; exact D.l1z) e
  refine wpAny_bind (wpAny_bind (wpAny_onRaise ?_))
  have fin:∀ (g:Heap) (e:Addr) (g0:Heap),(∃ o,g.get? e=some o/\o.cls=.type "StopIteration")->fM g z TI TO .ellipsis f1->(∀ c o,c≠z->c≠TO->c≠i1->c≠i2->s.heap.get? c=some o->g.get? c=some o) ->
    wpAny (model prog w) A (setField (.ref z) 0 .none) (fun _ s'=>E (.ref e) s') E { s with heap:=g }:=fun g e g0 ⟨oe,hoe,hce⟩ hzz kp=>by
   have hez:e≠z:=fun q=>by rw [q,hzz] at hoe; cases hoe; simp at hce
   exact wpAny_setField_rec hzz (by simp) fun g' _ b'=>hE g' e (fun c o c1 c2 c3 c4 q=>b'.extBut _ _ c1 (kp c o c1 c2 c3 c4 q)) ⟨oe,b'.extBut _ _ hez hoe,hce⟩
  rcases hend with ⟨e1,_⟩ | ⟨e2,k1⟩
  ·rw [e1] at s1
   refine wpAny_bind (m:=Builtin.SmallTypes.nextOf (.ref i1)) (S1.done _ _ _ _ hh s1 fun g2 e b2 he=>?_)
   exact fin g2 e g1 he (b2 _ _ D.i1z.symm hz1') fun c o c1 _ c3 _ q=>b2 _ _ c3 (b1.extBut _ _ c1 q)
  ·refine wpAny_bind (m:=Builtin.SmallTypes.nextOf (.ref i1)) (S1.item _ k _ _ _ k1 s1 fun x g2 px t1 b2=>wpAny_pure ?_)
   have o2:IsPair g2 TO a b:=b2.extBut _ _ D.TOi1 (b1.extBut _ _ D.TOz hTO)
   refine wpAny_bind (wpAny_seqItems o2 rfl ?_)
   refine wpAny_bind (wpAny_updateSeq_pair o2 fun g3 o3 b3=>?_)
   refine wpAny_bind (wpAny_letGo (wpAny_pure ?_))
   have s2:st2 n2 g3:=by
    rw [<- e2]
    exact S2.keep _ _ _ h2 fun c hc o e=>by
     rcases hc with r | r
     ·rw [r] at e ⊢; exact b3.extBut _ _ D.TOi2.symm (b2.extBut _ _ D.i12.symm (b1.extBut _ _ D.i2z e))
     ·rw [r] at e ⊢; exact b3.extBut _ _ D.l2TO (b2.extBut _ _ D.l2i1 (b1.extBut _ _ D.l2z e))
   refine wpAny_bind (wpAny_bind (wpAny_onRaise ?_))
   refine wpAny_bind (m:=Builtin.SmallTypes.nextOf (.ref i2)) (S2.done _ _ _ _ hh s2 fun g4 e b4 he=>?_)
   exact fin g4 e g3 he (b4 _ _ D.i2z.symm (b3.extBut _ _ D.TOz.symm (b2.extBut _ _ D.i1z.symm hz1'))) fun c o c1 c2 c3 c4 q=>b4 _ _ c4 (b3.extBut _ _ c2 (b2.extBut _ _ c3 (b1.extBut _ _ c1 q)))
 ·simp only [Jh,if_false]
  have s1:st1 k h0:=S1.keep _ _ _ h1 fun c hc o e=>b0.extBut c o (by rcases hc with r | r <;> rw [r]; exact D.i1z; exact D.l1z) e
  rw [<- Array.forIn_toList]
  simp only [Xs,Ze]
  refine wpAny_bind (wpAny_bind (wpAny_bind (wpAny_holding ?_)))
  rcases hend with ⟨e1,_⟩ | ⟨e2,k1⟩
  ·rw [e1] at s1
   refine wpAny_bind (m:=Builtin.SmallTypes.nextOf (.ref i1)) (S1.done _ _ _ _ hh s1 fun g2 e b2 he=>?_)
   exact hE g2 e (fun c o c1 _ c3 _ q=>b2 _ _ c3 (b0.extBut _ _ c1 q)) he
  ·refine wpAny_bind (m:=Builtin.SmallTypes.nextOf (.ref i1)) (S1.item _ k _ _ _ k1 s1 fun x g2 px t1 b2=>wpAny_pure ?_)
   refine wpAny_pure ?_
   have s2:st2 n2 g2:=by
    rw [<- e2]
    exact S2.keep _ _ _ h2 fun c hc o e=>by
     rcases hc with r | r
     ·rw [r] at e ⊢; exact b2.extBut _ _ D.i12.symm (b0.extBut _ _ D.i2z e)
     ·rw [r] at e ⊢; exact b2.extBut _ _ D.l2i1 (b0.extBut _ _ D.l2z e)
   refine wpAny_bind (wpAny_bind (wpAny_holding ?_))
   refine wpAny_bind (m:=Builtin.SmallTypes.nextOf (.ref i2)) (S2.done _ _ _ _ hh s2 fun g4 e b4 he=>?_)
   exact hE g4 e (fun c o c1 c2 c3 c4 q=>b4 _ _ c4 (b2.extBut _ _ c3 (b0.extBut _ _ c1 q))) he
structure ZipSt (h:Heap) (z TI TO i1 i2:Addr):Prop where
 hz:∃ f0 f1,F0 f0/\fM h z TI TO f0 f1
 ti:IsPair h TI (.ref i1) (.ref i2)
 to:∃ a b,IsPair h TO a b
theorem wG {e:Addr} {i:Nat} {old:Value} {Q:Value->Shared->Prop} (D:ZipApart z TI TO i1 i2 l1 l2) (S1:Sub prog w i1 l1 n1 P1 st1) (S2:Sub prog w i2 l2 n2 P2 st2) (he:IsEnum s.heap e z i old) (Z:ZipSt s.heap z TI TO i1 i2)
  (h1:st1 i s.heap) (h2:st2 i s.heap) (k1:i < n1) (k2:i < n2) (ne:e≠z/\e≠TI/\e≠TO/\e≠i1/\e≠i2/\e≠l1/\e≠l2)
  (hQ:∀ h' x y tk,P1 i x->P2 i y->IsEnumOut h' e z ((i:Int)+1) (.ref s.heap.objs.size) (s.heap.objs.size+1)->ZipSt h' z TI TO i1 i2->st1 (i+1) h'->st2 (i+1) h'->IsPair h' s.heap.objs.size x y ->
   h'.get? (s.heap.objs.size+1)=some { cls:=.type "tuple",data:=.seq #[.int i tk,.ref s.heap.objs.size] } ->
   (∀ c o,c≠e->c≠z->c≠TO->c≠i1->c≠i2->s.heap.get? c=some o->h'.get? c=some o)->Q (.ref (s.heap.objs.size+1)) { s with heap:=h',toks:=s.toks+1 }) :
  wpAny (model prog w) A (Builtin.«enumerate.__next__» ⟨[.ref e],[]⟩) (fun fin s'=>∃ v,fin=.done (.ret v)/\Q v s') E s:=by
 obtain ⟨⟨f0,f1,hf,hz⟩,hTI,⟨a,b,hTO⟩⟩:=Z
 obtain ⟨ne1,ne2,ne3,ne4,ne5,ne6,ne7⟩:=ne
 have hTz:s.TypeIs (.ref z) "zip" := ⟨_,hz,rfl⟩
 refine wpAny_bind (m:=field (.ref e) 2) (wpAny_field he rfl (x:=.ref z) rfl ?_)
 refine wpAny_bind (m:=Builtin.SmallTypes.nextOf (.ref z)) ?_
 unfold Builtin.SmallTypes.nextOf
 refine wpAny_bind (wpAny_callSpecial?_slot (name:=Str.ofString "__next__") hTz PySem.F.slot_zip_next (wpAny_call_entry PySem.F.slot_zip_next hTz PySem.F.entry_zip_next
  (aB0 D S1 S2 hz hf hTI hTO h1 h2 k1 k2 fun g1 x y f0' f1' px py hf' hz' hTO' t1 t2 hp hsz kp=>?_) (PySem.F.args_zip_next_1 _)))
 refine wpAny_pure ?_
 have e1:IsEnum g1 e z i old:=kp _ _ ne1 ne3 ne4 ne5 he
 refine wpAny_bind (m:=field (.ref e) 3) (wpAny_field e1 rfl (x:=rawInt i) rfl ?_)
 refine wpAny_bind (m:=field (.ref e) 4) (wpAny_field e1 rfl (x:=.none) rfl ?_)
 refine wpAny_bind (m:=mkInt i) (wpAny_mkInt ?_)
 refine wpAny_bind (m:=setField (.ref e) 3 (rawInt ((i:Int)+1))) (wpAny_setField_rec e1 (by simp) fun g2 e2 b2=>?_)
 have e2':IsEnum g2 e z ((i:Int)+1) old:=e2
 refine wpAny_bind (m:=setField (.ref e) 4 .none) (wpAny_setField_rec e2' (by simp) fun g3 e3 b3=>?_)
 have e3':IsEnum g3 e z ((i:Int)+1) old:=e3
 refine wpAny_bind (m:=newTuple [.int i s.toks,.ref s.heap.objs.size]) (wpAny_newTuple ?_)
 have sz:g3.objs.size=s.heap.objs.size+1:=by rw [b3.1,b2.1,hsz]
 have e4:IsEnum (g3.push { cls:=.type "tuple",data:=.seq #[.int i s.toks,.ref s.heap.objs.size] }) e z ((i:Int)+1) old:=Qa _ e3'
 have T4:(g3.push { cls:=.type "tuple",data:=.seq #[.int i s.toks,.ref s.heap.objs.size] }).get? (s.heap.objs.size+1)=some { cls:=.type "tuple",data:=.seq #[.int i s.toks,.ref s.heap.objs.size] }:=by rw [<- sz]; exact Qe _ rfl
 have up4:∀ c o,c≠e->g1.get? c=some o->(g3.push { cls:=.type "tuple",data:=.seq #[.int i s.toks,.ref s.heap.objs.size] }).get? c=some o:=fun c o c1 q=>Qa _ (b3.extBut _ _ c1 (b2.extBut _ _ c1 q))
 have elt:s.heap.objs.size+1≠e:=Jv (Jy (Ql he))
 have elt0:s.heap.objs.size≠e:=Jv (Ql he)
 rw [sz]
 generalize g3.push { cls:=.type "tuple",data:=.seq #[.int i s.toks,.ref s.heap.objs.size] }=g4 at e4 T4 up4 ⊢
 refine wpAny_bind (m:=Builtin.SmallTypes.ownedTupleIsFree (.ref e)) ?_
 unfold Builtin.SmallTypes.ownedTupleIsFree
 refine wpAny_bind (wpAny_field e4 rfl (x:=.none) rfl (wpAny_pure ?_))
 simp only [if_true]
 refine wpAny_bind (wpAny_rule ?_)
 refine wpAny_bind (wpAny_field e4 rfl (x:=old) rfl ?_)
 refine wpAny_bind (wpAny_setField_rec e4 (by simp) fun g5 e5 b5=>?_)
 have e5':IsEnum g5 e z ((i:Int)+1) (.ref s.heap.objs.size):=e5
 refine wpAny_bind (m:=Builtin.SmallTypes.ownedTupleHandOut (.ref e) (.ref (s.heap.objs.size+1))) ?_
 unfold Builtin.SmallTypes.ownedTupleHandOut
 refine wpAny_bind (wpAny_setField_rec e5' (by simp) fun g6 e6 b6=>?_)
 have e6':IsEnumOut g6 e z ((i:Int)+1) (.ref s.heap.objs.size) (s.heap.objs.size+1):=e6
 refine wpAny_setField_rec e6' (by simp) fun g7 e7 b7=>?_
 have e7':IsEnumOut g7 e z ((i:Int)+1) (.ref s.heap.objs.size) (s.heap.objs.size+1):=e7
 have up:∀ c o,c≠e->g4.get? c=some o->g7.get? c=some o:=fun c o c1 q=>b7.extBut _ _ c1 (b6.extBut _ _ c1 (b5.extBut _ _ c1 q))
 have all:∀ c o,c≠e->g1.get? c=some o->g7.get? c=some o:=fun c o c1 q=>up c o c1 (up4 c o c1 q)
 obtain ⟨a',b',hTO'⟩:=hTO'
 refine wpAny_bind (wpAny_letGo (wpAny_pure ⟨_,rfl,hQ g7 x y s.toks px py e7' ⟨⟨_,_,hf',all _ _ ne1.symm hz'⟩,all _ _ ne2.symm (kp _ _ D.TIz D.TITO D.TIi1 D.TIi2 hTI),⟨_,_,all _ _ ne3.symm hTO'⟩⟩ (S1.keep _ _ _ t1 fun c hc o q=>all c o ?_ q) (S2.keep _ _ _ t2 fun c hc o q=>all c o ?_ q) (all _ _ elt0 hp) (up _ _ elt T4) fun c o c0 c1 c2 c3 c4 q=>all c o c0 (kp c o c1 c2 c3 c4 q)⟩))
 ·rcases hc with r | r <;> rw [r]
  ·exact ne4.symm
  ·exact ne6.symm
 ·rcases hc with r | r <;> rw [r]
  ·exact ne5.symm
  ·exact ne7.symm
theorem yE {e:Addr} {i:Nat} {old:Value} {Q:Fin->Shared->Prop} (hh:A.handled=none) (D:ZipApart z TI TO i1 i2 l1 l2) (S1:Sub prog w i1 l1 n1 P1 st1) (S2:Sub prog w i2 l2 n2 P2 st2) (he:IsEnum s.heap e z i old) (Z:ZipSt s.heap z TI TO i1 i2)
  (h1:st1 i s.heap) (h2:st2 i s.heap) (hend:i=n1/\i<=n2∨i=n2/\i < n1)
  (hE:∀ h' x,(∀ c o,c≠z->c≠TO->c≠i1->c≠i2->s.heap.get? c=some o->h'.get? c=some o)->(∃ o,h'.get? x=some o/\o.cls=.type "StopIteration")->E (.ref x) { s with heap:=h' }) :
  wpAny (model prog w) A (Builtin.«enumerate.__next__» ⟨[.ref e],[]⟩) Q E s:=by
 obtain ⟨⟨f0,f1,hf,hz⟩,hTI,⟨a,b,hTO⟩⟩:=Z
 have hTz:s.TypeIs (.ref z) "zip" := ⟨_,hz,rfl⟩
 refine wpAny_bind (m:=field (.ref e) 2) (wpAny_field he rfl (x:=.ref z) rfl ?_)
 refine wpAny_bind (m:=Builtin.SmallTypes.nextOf (.ref z)) ?_
 unfold Builtin.SmallTypes.nextOf
 exact wpAny_bind (wpAny_callSpecial?_slot (name:=Str.ofString "__next__") hTz PySem.F.slot_zip_next (wpAny_call_entry PySem.F.slot_zip_next hTz PySem.F.entry_zip_next
  (aDg hh D S1 S2 hz hf hTI hTO h1 h2 hend fun h' x kp hx=>hE h' x kp hx) (PySem.F.args_zip_next_1 _)))
end
def aB1 (K:PySem.W.Frag) (k1 k2:Sk) (a b:Addr):It :=
 ⟨fun i H => ∃ xs ys x y, SqK k1 K H a xs /\ SqK k2 K H b ys /\ xs[i]? = some x /\ ys[i]? = some y,
  fun i H v H'=>∃ p q,H p=none/\H q=none/\q≠p/\v=.ref q/\∀ xs ys,SqK k1 K H a xs->SqK k2 K H b ys->∃ x y,xs[i]?=some x/\ys[i]?=some y/\H'=upd (upd H p (.tup [x,y])) q (.tup [.int (i:Nat),.ref p]),
  fun i H=>∃ xs ys,SqK k1 K H a xs/\SqK k2 K H b ys/\min xs.length ys.length=i⟩
theorem uC {P:Program} {w:World} {K:PySem.W.Frag} {es:List Expr} {x1} {pos:Pos} (k1 k2:Sk) (a b e z TI TO i1 i2:Addr) (D:∀ l1 l2:Addr,(∀ c∈[e,z,TI,TO,i1,i2],l1≠c)->(∀ c∈[e,z,TI,TO,i1,i2],l2≠c)->ZipApart z TI TO i1 i2 l1 l2)
  (ne:e≠z/\e≠TI/\e≠TO/\e≠i1/\e≠i2) :
  Turn P w K (.Tuple es x1 pos) (aB1 K k1 k2 a b) [e,z,TI,TO,i1,i2] e (fun i h=>(∃ old,IsEnum h e z i old)/\ZipSt h z TI TO i1 i2/\ItK k1 h i1 a i/\ItK k2 h i2 b i) where
 mem:=by simp
 obj:=fun i h st c hc=>by
  obtain ⟨⟨old,he⟩,⟨⟨f0,f1,hf,hz⟩,hTI,⟨x,y,hTO⟩⟩,h1,h2⟩:=st
  simp only [Qk,Qn,or_false] at hc
  rcases hc with rfl | rfl | rfl | rfl | rfl | rfl
  ·exact ⟨_,he,fun v q=>by cases q⟩
  ·exact ⟨_,hz,fun v q=>by cases q⟩
  ·exact ⟨_,hTI,fun v q=>by cases q⟩
  ·exact ⟨_,hTO,fun v q=>by cases q⟩
  ·exact h1.obj
  ·exact h2.obj
 keep:=fun i h h' st k=>by
  obtain ⟨⟨old,he⟩,⟨⟨f0,f1,hf,hz⟩,hTI,⟨x,y,hTO⟩⟩,h1,h2⟩:=st
  exact ⟨⟨old,k e (by simp) _ he⟩,⟨⟨f0,f1,hf,k z (by simp) _ hz⟩,k TI (by simp) _ hTI,⟨x,y,k TO (by simp) _ hTO⟩⟩,h1.at fun o e=>k i1 (by simp) o e,h2.at fun o e=>k i2 (by simp) o e⟩
 item:=by
  intro X hP hw hK hc i pins s σ H E I hf st hg
  subst hP hw hK
  obtain ⟨⟨old,he⟩,Z,h1,h2⟩:=st
  obtain ⟨xs,ys,x,y,ha,hb,hx,hy⟩:=hg
  obtain ⟨its,rv,pa⟩:=I.seqK ha
  obtain ⟨jts,rw',pb⟩:=I.seqK hb
  obtain ⟨u,hu,ru⟩:=rv.get hx
  obtain ⟨v,hv,rv2⟩:=rw'.get hy
  have na:∀ c∈[e,z,TI,TO,i1,i2],a≠c:=fun c hc'=>I.seq_ne ha (hf c hc')
  have nb:∀ c∈[e,z,TI,TO,i1,i2],b≠c:=fun c hc'=>I.seq_ne hb (hf c hc')
  have DD:=D a b na nb
  have hT:s.TypeIs (.ref e) "enumerate" := ⟨_,he,rfl⟩
  have hi1:i < its.toArray.size:=by rw [Qg]; exact (Qc.mp hu).1
  have hi2:i < jts.toArray.size:=by rw [Qg]; exact (Qc.mp hv).1
  unfold pyNext
  refine wpAny_bind (wpAny_attempt (wpAny_callSpecial?_slot (name:=Str.ofString "__next__") hT PySem.F.slot_enumerate_next (wpAny_call_entry PySem.F.slot_enumerate_next hT PySem.F.entry_enumerate_next
   (wG DD (rC k1 X.prog X.w i1 a its.toArray (na i1 (by simp))) (rC k2 X.prog X.w i2 b jts.toArray (nb i2 (by simp))) he Z ⟨h1,pa⟩ ⟨h2,pb⟩ hi1 hi2
    ⟨ne.1,ne.2.1,ne.2.2.1,ne.2.2.2.1,ne.2.2.2.2,(na e (by simp)).symm,(nb e (by simp)).symm⟩ fun h' u' v' tk pu pv he' Z' s1 s2 hp1 hp2 kp=>wpAny_pure ?_) (PySem.F.args_enumerate_next_1 _))))
  have eu:u'=u:=by
   have q:its[i]?=some u':=by simpa using pu
   rw [hu] at q
   exact (Option.some.inj q).symm
  have ev:v'=v:=by
   have q:jts[i]?=some v':=by simpa using pv
   rw [hv] at q
   exact (Option.some.inj q).symm
  subst eu ev
  refine ⟨_,rfl,wpAny_letOwnedTupleGo_enum he' fun h2' he2 sb2=>?_⟩
  have T0:s.heap.objs.size≠e:=Jv (Ql he)
  have T1:s.heap.objs.size+1≠e:=Jv (Jy (Ql he))
  have hp1':IsPair h2' s.heap.objs.size u' v':=sb2.extBut _ _ T0 hp1
  have hp2':h2'.get? (s.heap.objs.size+1)=some { cls:=.type "tuple",data:=.seq #[.int i tk,.ref s.heap.objs.size] }:=sb2.extBut _ _ T1 hp2
  have hf0:=I.hok.fresh (Qi s.heap.objs.size)
  have hf1:=I.hok.fresh (Yt s.heap.objs.size)
  have fz:=I.fpOk (Qi s.heap.objs.size) hf0
  have fz1:=I.fpOk (Yt s.heap.objs.size) hf1
  have I2:Inv X pins σ H { s with heap:=h2',toks:=s.toks+1 }:=by
   refine I.turnedL (t':=s.toks+1) [e,z,TO,i1,i2] (fun c o hc' q=>?_) (fun c hc'=>hf c ?_)
   ·simp only [Qk,Qn,or_false,not_or] at hc'
    exact sb2.extBut _ _ hc'.1 (kp c o hc'.1 hc'.2.1 hc'.2.2.1 hc'.2.2.2.1 hc'.2.2.2.2 q)
   ·simp only [Qk,Qn,or_false] at hc' ⊢
    rcases hc' with r | r | r | r | r
    ·exact .inl r
    ·exact .inr (.inl r)
    ·exact .inr (.inr (.inr (.inl r)))
    ·exact .inr (.inr (.inr (.inr (.inl r))))
    ·exact .inr (.inr (.inr (.inr (.inr r))))
  have I3:Inv X pins σ (upd H s.heap.objs.size (.tup [x,y])) { s with heap:=h2',toks:=s.toks+1 }:=by
   refine I2.trackO (show bL X.prog X.w _ _ _ (.tup [x,y]) from ⟨by show 2<=sizeLine; rw [sizeLine_eq]; decide,[u',v'],0,.cons ru (.cons rv2 .nil),hp1'⟩) hf0 fz.2.1 I.sz fz.2.2.2.2.1 fz.2.2.2.2.2
  have nn:s.heap.objs.size+1≠s.heap.objs.size:=Nat.succ_ne_self _
  have I4:Inv X pins σ (upd (upd H s.heap.objs.size (.tup [x,y])) (s.heap.objs.size+1) (.tup [.int (i:Nat),.ref s.heap.objs.size])) { s with heap:=h2',toks:=s.toks+1 }:=by
   refine I3.trackO (show bL X.prog X.w _ _ _ (.tup [.int (i:Nat),.ref s.heap.objs.size]) from ⟨by show 2<=sizeLine; rw [sizeLine_eq]; decide,[.int i tk,.ref s.heap.objs.size],0,.cons ⟨tk,rfl⟩ (.cons rfl .nil),hp2'⟩) (by rw [aK nn]; exact hf1) fz1.2.1 (Qx I.sz (Yt _)) fz1.2.2.2.2.1 fz1.2.2.2.2.2
  obtain ⟨⟨g0,g1,hg,hz'⟩,hTI',⟨a',b',hTO'⟩⟩:=Z'
  refine ⟨.ref (s.heap.objs.size+1),_,I4,rfl,⟨s.heap.objs.size,s.heap.objs.size+1,hf0,hf1,nn,rfl,fun xs' ys' ha' hb'=>?_⟩,⟨⟨_,by simpa using he2⟩,⟨⟨g0,g1,hg,sb2.extBut _ _ ne.1.symm hz'⟩,sb2.extBut _ _ ne.2.1.symm hTI',⟨_,_,sb2.extBut _ _ ne.2.2.1.symm hTO'⟩⟩,s1.1.at fun o q=>sb2.extBut _ _ ne.2.2.2.1.symm q,s2.1.at fun o q=>sb2.extBut _ _ ne.2.2.2.2.symm q⟩,fun c hc'=>?_⟩
  ·rw [I.seqK_inj ha' ha,I.seqK_inj hb' hb]
   exact ⟨x,y,hx,hy,rfl⟩
  ·have cl:c < s.heap.objs.size:=by
    obtain ⟨o,q⟩:∃ o,s.heap.get? c=some o:=by
     obtain ⟨⟨f0,f1,hf',hz⟩,hTI,⟨x',y',hTO⟩⟩:=Z
     simp only [Qk,Qn,or_false] at hc'
     rcases hc' with rfl | rfl | rfl | rfl | rfl | rfl
     ·exact ⟨_,he⟩
     ·exact ⟨_,hz⟩
     ·exact ⟨_,hTI⟩
     ·exact ⟨_,hTO⟩
     ·obtain ⟨o,q,_⟩:=h1.obj; exact ⟨o,q⟩
     ·obtain ⟨o,q,_⟩:=h2.obj; exact ⟨o,q⟩
    exact Ql q
   rw [aK (Qt (Jy cl)),aK (Qt cl)]
   exact (hf c hc').1
 done:=by
  intro X hP hw hK hc i pins s σ H E I hf st hg
  subst hP hw hK
  obtain ⟨⟨old,he⟩,Z,h1,h2⟩:=st
  obtain ⟨xs,ys,ha,hb,hmin⟩:=hg
  obtain ⟨its,rv,pa⟩:=I.seqK ha
  obtain ⟨jts,rw',pb⟩:=I.seqK hb
  have la:=rv.length
  have lb:=rw'.length
  have na:∀ c∈[e,z,TI,TO,i1,i2],a≠c:=fun c hc'=>I.seq_ne ha (hf c hc')
  have nb:∀ c∈[e,z,TI,TO,i1,i2],b≠c:=fun c hc'=>I.seq_ne hb (hf c hc')
  have DD:=D a b na nb
  have hT:s.TypeIs (.ref e) "enumerate" := ⟨_,he,rfl⟩
  unfold pyNext
  refine wpAny_bind (wpAny_attempt (wpAny_callSpecial?_slot (name:=Str.ofString "__next__") hT PySem.F.slot_enumerate_next (wpAny_call_entry PySem.F.slot_enumerate_next hT PySem.F.entry_enumerate_next
   (yE (I.ok.hd hc) DD (rC k1 X.prog X.w i1 a its.toArray (na i1 (by simp))) (rC k2 X.prog X.w i2 b jts.toArray (nb i2 (by simp))) he Z ⟨h1,pa⟩ ⟨h2,pb⟩ (by rw [Qg,Qg]; omega) fun h' x kp hx=>?_) (PySem.F.args_enumerate_next_1 _))))
  obtain ⟨oe,hoe,hce⟩:=hx
  refine wpAny_bind (wpAny_isInstance (T := "StopIteration") (b:=true) ⟨oe,hoe,hce⟩ isSubtype_stop (wpAny_pure ⟨rfl,?_⟩))
  refine I.turnedL (t':=s.toks) [z,TO,i1,i2] (fun c o hc' q=>?_) (fun c hc'=>hf c ?_)
  ·simp only [Qk,Qn,or_false,not_or] at hc'
   exact kp c o hc'.1 hc'.2.1 hc'.2.2.1 hc'.2.2.2 q
  ·simp only [Qk,Qn,or_false] at hc' ⊢
   rcases hc' with r | r | r | r
   ·exact .inr (.inl r)
   ·exact .inr (.inr (.inr (.inl r)))
   ·exact .inr (.inr (.inr (.inr (.inl r))))
   ·exact .inr (.inr (.inr (.inr (.inr r))))
 self:=fun _ _ _ _ _ st h=>by
  obtain ⟨⟨old,he⟩,_⟩:=st
  exact wpAny_pyIter_enum he h
theorem rJ (z TI TO:Addr) :
  Meets (Builtin.«enumerate.__new__» ⟨[.type "enumerate",.ref z],[]⟩) (fun _ R s=>IsZip s.heap z TI TO .none /\
   R (.ok (.ret (.ref s.heap.objs.size))) { s with heap:=s.heap.push { cls:=.type "enumerate",data:=.fields #[.none,.bool false,.ref z,rawInt 0,.none,.none] } }) :=
 .of_wp fun prog w A R s h=>by
  obtain ⟨hp,g,d,tk,os⟩:=s
  obtain ⟨hl,h⟩:=h
  have hsub:=sub_enumerate
  have hZ:IsZip (Shared.heap ⟨hp,g,d,tk,os⟩) z TI TO .none:=hl
  wp_walk using AutoSeq1.wpAny_loadPart' hZ
  refine wpAny_stack_any fun st=>wpAny_pure ?_
  split
  ·rename_i c _ _ _ _ _
   cases (c==Value.type "enumerate")
   ·wp_walk using AutoSeq1.wpAny_loadPart' hZ,wpAny_pyIter_zip hZ
    exact ⟨_,rfl,h⟩
   ·wp_walk using AutoSeq1.wpAny_loadPart' hZ,wpAny_pyIter_zip hZ
    exact ⟨_,rfl,h⟩
  ·wp_walk using AutoSeq1.wpAny_loadPart' hZ,wpAny_pyIter_zip hZ
   exact ⟨_,rfl,h⟩
section
variable {X:Cx} {es:List Expr} {x1:Nat} {tpos:Pos}
def aB2 (K:PySem.W.Frag) (k1 k2:Sk) (ta:TA):TI:=fun σ H R=>ta σ H fun vs H1=>∃ a b xs ys,vs = [.ref a,.ref b]/\SqK k1 K H1 a xs/\SqK k2 K H1 b ys/\R (aB1 K k1 k2 a b) H1
theorem yF (k1 k2:Sk) {a b:Expr} {ta:TA} {p pos p' pos':Pos} (hg:Gl X "enumerate") (hm:X.mg "enumerate" = none) (hg2:Gl X "zip") (hm2:X.mg "zip" = none) (ha:PA X [a,b] ta)
  (hs:starEach [a,b] X.env = [(false,eval a X.env),(false,eval b X.env)]:=by rfl) (hs2:starEach [b] X.env = [(false,eval b X.env)]:=by rfl)
  (hs3:starEach [Expr.Call (.Name "zip" p') [a,b] [] pos'] X.env = [(false,eval (.Call (.Name "zip" p') [a,b] [] pos') X.env)]:=by rfl) :
  PI X (.Tuple es x1 tpos) (.Call (.Name "enumerate" p) [.Call (.Name "zip" p') [a,b] [] pos'] [] pos) (aB2 X.K k1 k2 ta):=by
 intro pins s σ H R I h
 refine Call_ (iB (u:=.type "enumerate") I hg hm (by decide +kernel) (PyProof.Rows.callWith_type1 ?_ hs3 rfl))
 rw [hs3]
 show wpAny _ _ (spliced ((false,eval (.Call (.Name "zip" p') [a,b] [] pos') X.env)::[])) _ _ s
 refine Calls.spliced_cons ?_
 refine Call_ (iB (u:=.type "zip") I hg2 hm2 (by decide +kernel) (PyProof.Rows.callWith_type1 (thn (ha pos' pins s σ H _ I h) fun us s1 hx9=>?_) (by rw [hs,hs2]) (by rw [hs2]; rfl)))
 obtain ⟨vs,H1,I1,r1,q1⟩:=hx9
 obtain ⟨l1,l2,xs,ys,rfl,hA,hB,q⟩:=q1
 obtain ⟨u1,u2,rfl,r1',r2'⟩:=lF r1
 cases r1'
 cases r2'
 obtain ⟨its,rv,pa⟩:=I1.seqK hA
 obtain ⟨jts,rw',pb⟩:=I1.seqK hB
 refine callType_new PySem.F.called_zip (by decide) (PySem.F.typeCall_zip_2 _ _) (PySem.F.newCall_zip_2 _ _) (fun obj=>PySem.F.args_object_init_3 obj _ _) PySem.F.entry_zip_new (vI k1 k2 l1 l2 its.toArray jts.toArray) ⟨pa,pb,?_⟩
 have n1:(zh1 k1 s1.heap l1).objs.size=s1.heap.objs.size+1:=Qz ..
 have n2:(zh2 k1 k2 s1.heap l1 l2).objs.size=s1.heap.objs.size+2:=by rw [Qz,n1]
 have n3:(zh3 k1 k2 s1.heap l1 l2).objs.size=s1.heap.objs.size+3:=by rw [Qz,n2]
 have n4:(zh4 k1 k2 s1.heap l1 l2).objs.size=s1.heap.objs.size+4:=by rw [Qz,n3]
 have n5:(zh5 k1 k2 s1.heap l1 l2).objs.size=s1.heap.objs.size+5:=by rw [Qz,n4]
 have g5:IsZip (zh5 k1 k2 s1.heap l1 l2) (zh4 k1 k2 s1.heap l1 l2).objs.size (zh2 k1 k2 s1.heap l1 l2).objs.size (zh3 k1 k2 s1.heap l1 l2).objs.size .none:=Qe _ rfl
 have g4:IsPair (zh5 k1 k2 s1.heap l1 l2) (zh3 k1 k2 s1.heap l1 l2).objs.size .none .none:=Qa _ (Qe _ rfl)
 have g3:IsPair (zh5 k1 k2 s1.heap l1 l2) (zh2 k1 k2 s1.heap l1 l2).objs.size (.ref s1.heap.objs.size) (.ref (zh1 k1 s1.heap l1).objs.size):=Qa _ (Qa _ (Qe _ rfl))
 have g2:ItK k2 (zh5 k1 k2 s1.heap l1 l2) (zh1 k1 s1.heap l1).objs.size l2 0:=(ItK.new k2 (zh1 k1 s1.heap l1) l2).at fun o e=>Qa _ (Qa _ (Qa _ e))
 have g1:ItK k1 (zh5 k1 k2 s1.heap l1 l2) s1.heap.objs.size l1 0:=(ItK.new k1 s1.heap l1).at fun o e=>Qa _ (Qa _ (Qa _ (Qa _ e)))
 have kp:∀ c o,s1.heap.get? c=some o->(zh5 k1 k2 s1.heap l1 l2).get? c=some o:=fun c o e=>Qa _ (Qa _ (Qa _ (Qa _ (Qa _ e))))
 refine ⟨⟨_,g5,rfl⟩,Calls.spliced_nil ?_⟩
 rw [n1,n2,n3,n4] at *
 generalize zh5 k1 k2 s1.heap l1 l2=hz5 at *
 refine callType_new PySem.F.called_enumerate (by decide) (PySem.F.typeCall_enumerate_1 _) (PySem.F.newCall_enumerate_1 _) (fun obj=>PySem.F.args_object_init_2 obj _) PySem.F.entry_enumerate_new (rJ (s1.heap.objs.size+4) (s1.heap.objs.size+2) (s1.heap.objs.size+3)) ⟨g5,?_⟩
 have ge:IsEnum (hz5.push { cls:=.type "enumerate",data:=.fields #[.none,.bool false,.ref (s1.heap.objs.size+4),rawInt 0,.none,.none] }) hz5.objs.size (s1.heap.objs.size+4) 0 .none:=Qe _ rfl
 have kp6:∀ c o,hz5.get? c=some o->(hz5.push { cls:=.type "enumerate",data:=.fields #[.none,.bool false,.ref (s1.heap.objs.size+4),rawInt 0,.none,.none] }).get? c=some o:=fun c o e=>Qa _ e
 rw [n5] at ge
 show (∃ _,_)/\_
 rw [n5]
 generalize hz5.push { cls:=.type "enumerate",data:=.fields #[.none,.bool false,.ref (s1.heap.objs.size+4),rawInt 0,.none,.none] }=h6 at ge kp6 ⊢
 refine ⟨⟨_,ge,rfl⟩,wpAny_pyIter_enum ge ?_⟩
 have I2:Inv X pins σ H1 { s1 with heap:=h6 }:=I1.kept (t':=s1.toks) fun c o e=>kp6 c o (kp c o e)
 have d:∀ i j:Nat,i≠j->s1.heap.objs.size+i≠s1.heap.objs.size+j:=fun i j h=>by omega
 refine ⟨s1.heap.objs.size+5,[s1.heap.objs.size+5,s1.heap.objs.size+4,s1.heap.objs.size+2,s1.heap.objs.size+3,s1.heap.objs.size,s1.heap.objs.size+1],_,_,H1,rfl,I2,uC k1 k2 l1 l2 _ _ _ _ _ _ ?_ ⟨d 5 4 (by decide),d 5 2 (by decide),d 5 3 (by decide),d 5 0 (by decide),d 5 1 (by decide)⟩,⟨⟨_,ge⟩,⟨⟨_,_,.inl rfl,kp6 _ _ g5⟩,kp6 _ _ g3,⟨_,_,kp6 _ _ g4⟩⟩,g1.at fun o e=>kp6 _ _ e,g2.at fun o e=>kp6 _ _ e⟩,fun c hc=>?_,q⟩
 ·intro m1 m2 h1 h2
  exact ⟨d 2 4 (by decide),d 3 4 (by decide),d 0 4 (by decide),d 1 4 (by decide),d 2 3 (by decide),d 2 0 (by decide),d 2 1 (by decide),d 3 0 (by decide),d 3 1 (by decide),d 0 1 (by decide),
   h1 _ (by simp),h1 _ (by simp),h1 _ (by simp),h1 _ (by simp),h2 _ (by simp),h2 _ (by simp),h2 _ (by simp),h2 _ (by simp)⟩
 ·have hc':s1.heap.objs.size<=c:=by
   simp only [Qk,Qn,or_false] at hc
   rcases hc with r | r | r | r | r | r <;> rw [r]
   all_goals first | exact Qi _ | exact Xo _ _
  exact I1.fpOk hc' (I1.hok.fresh hc')
end
theorem wH {K:PySem.W.Frag} {k1 k2:Sk} {a b:Addr} {xs ys:List V} {g:TG} {tb:TS} {D:Ends} {σ:St} {H:Hp} (Pv:Nat->St->Hp->Prop) (heq:xs.length=ys.length) (h0:Pv 0 σ H) (hl:∀ i σ H,i<=xs.length->Pv i σ H->SqK k1 K H a xs/\SqK k2 K H b ys)
  (hs:∀ i x y p q σ H,xs[i]?=some x->ys[i]?=some y->Pv i σ H->H p=none->H q=none->q≠p->g (.ref q) σ (upd (upd H p (.tup [x,y])) q (.tup [.int (i:Nat),.ref p])) fun σ2 H2=>tb { D with nx:=Pv (i+1),ct:=Pv (i+1),bk:=D.nx } σ2 H2) (hd:∀ σ H,Pv xs.length σ H->D.nx σ H) :
  ∃ W:Nat->Nat->St->Hp->Prop,(∃ m,W 0 m σ H)/\∀ i m σ H,W i m σ H ->
   ((aB1 K k1 k2 a b).stop i H/\D.nx σ H)∨((aB1 K k1 k2 a b).go i H/\∃ N:St->Hp->Prop,(∀ σ' H',N σ' H'->∃ m',m' < m/\W (i+1) m' σ' H')/\∀ x H',(aB1 K k1 k2 a b).yld i H x H'->g x σ H' fun σ2 H2=>tb { D with nx:=N,ct:=N,bk:=D.nx } σ2 H2):=by
 refine ⟨fun i m σ H=>m=xs.length - i/\i<=xs.length/\Pv i σ H,⟨xs.length,by simp,Jm _,h0⟩,?_⟩
 rintro i m σ H ⟨rfl,hi,p⟩
 obtain ⟨q1,q2⟩:=hl i σ H hi p
 by_cases hlt:i < xs.length
 ·refine .inr ⟨⟨xs,ys,xs[i],ys[i]'(by omega),q1,q2,Qd hlt,Qd (by omega)⟩,Pv (i+1),fun σ' H' p'=>⟨xs.length - (i+1),by omega,rfl,hlt,p'⟩,fun x H' y=>?_⟩
  obtain ⟨p1,q1',hp1,hq1,hne,rfl,hy⟩:=y
  obtain ⟨x,y,h1,h2,rfl⟩:=hy xs ys q1 q2
  exact hs i x y p1 q1' σ H h1 h2 p hp1 hq1 hne
 ·have e:i=xs.length:=by omega
  subst e
  exact .inl ⟨⟨xs,ys,q1,q2,by rw [<- heq,Nat.min_self]⟩,hd σ H p⟩
end L2
namespace L2
open PySem
section
variable {X:Cx} {K:PySem.W.Frag} {pos:Pos}
theorem kIn (hK:X.K=K):OpR X (compareOp .In) (rIn K false):=by subst hK; exact mX
end
section
variable {α β γ δ ε ζ η θ ι κ:Type}
end
end L2
namespace L2
open PySem PySem.Spec PyProof.Rows
def oV:Option Int->V
 | some i=>.int i
 | none=>.non
section
variable {X:Cx}
theorem wI:∀ {os:List (Option Int)} {us:List Value},aZ (os.map oV) us->∀ y∈us,y=.none∨∃ m t,y=.int m t
 | [],_,r,y,hy=>by cases r; cases hy
 | o::os,us,r,y,hy=>by
  cases r with
  | cons r1 r2 =>
   rcases Qk.mp hy with rfl | hy
   ·cases o with
    | none=>exact .inl r1
    | some m=>obtain ⟨t,rfl⟩:=r1; exact .inr ⟨m,t,rfl⟩
   ·exact wI r2 y hy
theorem sK (n:Int):∀ {os:List (Option Int)} {us:List Value},aZ (os.map oV) us->us.countP (isInt n)=os.count (some n)
 | [],_,r=>by cases r; rfl
 | o::os,us,r=>by
  cases r with
  | cons r1 r2 =>
   rw [List.countP_cons,Js,sK n r2]
   cases o with
   | none=>rw [show (_:Value)=.none from r1]; rfl
   | some m =>
    obtain ⟨t,rfl⟩:=r1
    by_cases e:m=n
    ·subst e; simp [isInt]
    ·have e1:((some m:Option Int)==some n)=false:=by simpa using e
     have e2:isInt n (.int m t)=false:=by simpa [isInt] using e
     rw [e1,e2]
theorem aAU:MtR X "tuple.count" (fun x vs H Q=>∃ (a:Addr) (os:List (Option Int)) (n:Int),x=.ref a/\vs = [.int n]/\SqT X.K H a (os.map oV)/\Q (.int (os.count (some n):Nat)) H):=by
 intro pins s σ H x v vs us Q I rx r h
 obtain ⟨a,os,n,rfl,rfl,ha,q⟩:=h
 obtain ⟨u,rfl,t,rfl⟩:=gG r
 cases rx
 obtain ⟨its,rv,⟨⟨cls,dd,data,sl⟩,ho,hc,k,hd⟩,hzz⟩:=I.tuple ha
 simp only at hc hd
 subst hc hd
 refine call_meets PySem.F.slot_tuple_count ⟨_,ho,rfl⟩ PySem.F.entry_tuple_count (PySem.F.args_tuple_count_2 _ _) (SeqAt.tuple_countAt a its.toArray k dd sl (.int n t) (isInt n)) ⟨ho,fun y hy=>?_,?_⟩
 ·rcases wI rv y (by simpa using hy) with rfl | ⟨m,t',rfl⟩
  ·exact SeqAt.EqAt.none_int n t
  ·exact SeqAt.EqAt.int_int m t' n t
 ·have e:(its.toArray.toList.countP (isInt n))=os.count (some n):=by
   simp only [Xe]
   exact sK n rv
  rw [e]
  exact ⟨.int _,H,I.tok _,⟨_,rfl⟩,q⟩
theorem yG {K:PySem.W.Frag} (hK:X.K=K):MtR X "tuple.count" (fun x vs H Q=>∃ (a:Addr) (os:List (Option Int)) (n:Int),x=.ref a/\vs = [.int n]/\SqT K H a (os.map oV)/\Q (.int (os.count (some n):Nat)) H):=by subst hK; exact aAU
end
section
variable {K:PySem.W.Frag} {own:Nat} {fr:List Nat} {g:TG} {te:TE} {σ:St} {H:Hp} {Qf:Hp->List V->Prop}
theorem aB3 {k:Sk} {a:Addr} {xs vs:List V} (SH:St->Prop) (hn:xs.length<=1000) (hl:vs.length=xs.length) (ha:∀ H',aF H H'->SqK k K H' a xs) (hσ:SH (blk own fr σ))
  (hs:∀ (i:Nat) x v p σ H1,xs[i]?=some x->vs[i]?=some v->H1 p=none->SH σ->aF H H1->∀ Q:V->St->Hp->Prop,(∀ σ2 H4,SH σ2->aF H1 H4->Q v σ2 H4)->g (.ref p) σ (upd H1 p (.tup [.int (i:Nat),x])) fun σ2 H2=>te σ2 H2 fun y H4=>Q y σ2 H4)
  (hd:∀ H',aF H H'->Qf H' vs) :
  ∃ W:Nat->Nat->List V->St->Hp->Prop,(∃ m,W 0 m [] (blk own fr σ) H)/\∀ i m ys σ' H,W i m ys σ' H ->
   ((Ite K k a).stop i H/\Qf H ys) ∨
   ((Ite K k a).go i H/\∃ N:List V->St->Hp->Prop,(∀ ys' σ2 H2,N ys' σ2 H2->∃ m',m' < m/\W (i+1) m' ys' σ2 H2) /\
    ∀ x H',(Ite K k a).yld i H x H'->g x σ' H' fun σ2 H2=>aBs σ2 H2 fun b H3=>if b=true then te σ2 H3 fun y H4=>ys.length < sizeLine/\N (ys++[y]) σ2 H4 else N ys σ2 H3):=by
 refine zV SH hn hl hσ (fun H' s=>⟨xs,ha H' s,rfl⟩) (fun i H' hi s=>⟨xs,xs[i],ha H' s,Qd hi⟩) (fun i v x σ H1 H2 hi hv sh s y Q k=>?_) hd
 obtain ⟨q,hq,rfl,hy⟩:=y
 obtain ⟨x,h1,rfl⟩:=hy xs (ha H1 s)
 exact hs i x v q σ H1 h1 hv hq sh s Q k
end
structure Tb (L:Bool) (t:SetTable) (n m:Nat):Prop where
 mask:(t.mask=7/\n<=m)∨(t.mask=31/\n<=12)
 dums:t.dummies = #[]
 plain:t.plain=true
 led:t.led=L
 size:t.place.size=n
 rise:t.place.toList.Pairwise (· < ·)
theorem Tb.fits {L:Bool} {t:SetTable} {n m:Nat} (T:Tb L t n m) (hm:m<=6):t.fits n=true:=by
 unfold SetTable.fits SetTable.fill
 rw [T.size,T.dums]
 have:n+(#[]:Array Nat).size<=t.mask:=by
  show n+0<=_
  rcases T.mask with ⟨a,b⟩ | ⟨a,b⟩ <;> omega
 rw [decide_eq_true this,beq_self_eq_true]
 rfl
def ent (p:Int×Tok):Int×Value:=(hashInt p.1,.int p.1 p.2)
def SG (L:Bool) (h:Heap) (a:Addr) (ks:List (Int×Tok)):Prop:=∃ o ep es t,h.get? a=some o/\o.ExactSet/\o.data=.set es ep t/\es.toList.Perm (ks.map ent)/\Tb L t es.size 4
theorem SG.keep {L:Bool} {h h':Heap} {a:Addr} {l:List (Int×Tok)} (x:SG L h a l) (k:∀ o,h.get? a=some o->h'.get? a=some o):SG L h' a l:=by
 obtain ⟨o,ep,es,t,e,r⟩:=x
 exact ⟨o,ep,es,t,k o e,r⟩
section
variable {prog:Program} {w:World} {A:Around} {E:Value->Shared->Prop} {s:Shared} {L:Bool} {a:Addr}
structure KsOf (ks:List (Int×Tok)) (ns:List Int):Prop where
 nd:(ks.map (·.1)).Nodup
 mem:∀ k,k∈ks.map (·.1)↔k∈ns
 len:ks.length<=ns.length
end
section
variable {prog:Program} {w:World} {A:Around} {E:Value->Shared->Prop} {s:Shared} {S:Addr} {o:Obj} {ep:Nat} {es:Array (Int×Value)} {t:SetTable}
end
section
variable {X:Cx}
end
open PySem.AutoSeq1 (wpAny_loadPart')
theorem rK (l:Addr) (items:Array Value) (n:Nat) (dd:Option Addr) (sl:Array (Option Value)) (u:Tok) :
  Meets (Builtin.«tuple.__mul__» ⟨[.ref l,.int 1 u],[]⟩) (fun _ R s=>s.heap.get? l=some { cls:=.type "tuple",dict:=dd,data:=.seq items n,slots:=sl }/\R (.ok (.ret (Value.ref l))) s) :=
 .of_wp fun prog w A R s h=>by
  obtain ⟨hp,g,d,tk,os⟩:=s
  obtain ⟨hl,h⟩:=h
  have f1:=AutoSeq1.idx_int
  have f2:=AutoSeq1.sub_tuple_tuple
  wp_walk using wpAny_loadPart' hl
  exact ⟨_,rfl,h⟩
theorem pZ (l:Addr) (items:Array Value) (n:Nat) (dd:Option Addr) (sl:Array (Option Value)) (u:Tok) (hne:items.isEmpty=false) :
  Meets (Builtin.«tuple.__mul__» ⟨[.ref l,.int 0 u],[]⟩) (fun _ R s=>s.heap.get? l=some { cls:=.type "tuple",dict:=dd,data:=.seq items n,slots:=sl }/\R (.ok (.ret (Value.ref s.heap.objs.size))) { s with heap:=s.heap.push { cls:=Value.type "tuple",data:=Data.seq #[] } }) :=
 .of_wp fun prog w A R s h=>by
  obtain ⟨hp,g,d,tk,os⟩:=s
  obtain ⟨hl,h⟩:=h
  have f1:=AutoSeq1.idx_int
  have f2:=AutoSeq1.sub_tuple_tuple
  wp_walk using wpAny_loadPart' hl
  exact ⟨_,rfl,h⟩
theorem oG (l:Addr) (items:Array Value) (n:Nat) (dd:Option Addr) (sl:Array (Option Value)) (u:Tok) (hne:items.isEmpty=true) :
  Meets (Builtin.«tuple.__mul__» ⟨[.ref l,.int 0 u],[]⟩) (fun _ R s=>s.heap.get? l=some { cls:=.type "tuple",dict:=dd,data:=.seq items n,slots:=sl }/\R (.ok (.ret (Value.ref l))) s) :=
 .of_wp fun prog w A R s h=>by
  obtain ⟨hp,g,d,tk,os⟩:=s
  obtain ⟨hl,h⟩:=h
  have f1:=AutoSeq1.idx_int
  have f2:=AutoSeq1.sub_tuple_tuple
  wp_walk using wpAny_loadPart' hl
  exact ⟨_,rfl,h⟩
def aDQ (K:PySem.W.Frag):R2:=fun x y H Q=>∃ a,∃ k:Nat,∃ xs,x=.ref a/\y=.int k/\SqT K H a xs/\k<=1000/\xs.length<=1000/\∀ p H',aF H H'->SqT K H' p (List.replicate k xs).flatten->Q (.ref p) H'
theorem aDh {X:Cx} {K:PySem.W.Frag} (hK:X.K=K):OpR X (binaryOp .Mult) (aDQ K):=by
 intro pins s σ H x y v u Q I rx ry h
 obtain ⟨a,k,xs,rfl,rfl,ha,h2,hz,q⟩:=h
 by_cases h1:1 < k
 ·exact zP hK pins s σ H _ _ v u Q I rx ry ⟨a,k,xs,rfl,rfl,ha,by omega,by omega,hz,q⟩
 subst hK
 cases rx
 obtain ⟨t,rfl⟩:=ry
 obtain ⟨its,r,⟨⟨cls,dd,data,sl⟩,ho,hc,n,hd⟩,hzz⟩:=I.tuple ha
 simp only at hc hd
 subst hc hd
 refine wpAny_binaryOp_repeat_ref (T := "tuple") (U := "int") (by decide) ⟨_,ho,rfl⟩ (fun s'=>typeIs_int s' k t) iL PySem.F.fills_int_mul PySem.F.slot_int_rmul mI PySem.F.slot_int_index.lookup
  (call_meets PySem.F.slot_int_rmul (typeIs_int s k t) PySem.F.entry_int_rmul (PySem.F.args_int_rmul_2 _ _) (kD k t a its.toArray n dd sl) ⟨ho,rfl,⟨_,ho,rfl⟩,?_⟩)
 rcases (show k=0∨k=1 by omega) with rfl | rfl
 ·by_cases hx:its = []
  ·subst hx
   cases r
   refine call_meets PySem.F.slot_tuple_mul ⟨_,ho,rfl⟩ PySem.F.entry_tuple_mul (PySem.F.args_tuple_mul_2 _ _) (oG a _ n dd sl t rfl) ⟨ho,?_⟩
   exact ⟨.ref a,H,I,rfl,q a H (aF.refl H) ha⟩
  ·have hne:its.toArray.isEmpty=false:=by
    cases its with
    | nil=>exact absurd rfl hx
    | cons _ _=>rfl
   refine call_meets PySem.F.slot_tuple_mul ⟨_,ho,rfl⟩ PySem.F.entry_tuple_mul (PySem.F.args_tuple_mul_2 _ _) (pZ a its.toArray n dd sl t hne) ⟨ho,?_⟩
   refine ⟨.ref _,_,I.laid (t':=s.toks) (o:=.tup []) (fun b ob q=>Qa _ q) (Qi _) ?_,rfl,q _ _ (aF.new (I.hok.fresh (Qi _))) (SqT.of aC)⟩
   exact ⟨Jm _,[],0,.nil,Qe _ rfl⟩
 ·refine call_meets PySem.F.slot_tuple_mul ⟨_,ho,rfl⟩ PySem.F.entry_tuple_mul (PySem.F.args_tuple_mul_2 _ _) (rK a its.toArray n dd sl t) ⟨ho,?_⟩
  exact ⟨.ref a,H,I,rfl,q a H (aF.refl H) (by simpa using ha)⟩
structure Zip3Apart (z TI TO i1 i2 i3 l1 l2 l3:Addr):Prop where
 TIz:TI≠z
 TOz:TO≠z
 i1z:i1≠z
 i2z:i2≠z
 i3z:i3≠z
 TITO:TI≠TO
 TIi1:TI≠i1
 TIi2:TI≠i2
 TIi3:TI≠i3
 TOi1:TO≠i1
 TOi2:TO≠i2
 TOi3:TO≠i3
 i12:i1≠i2
 i13:i1≠i3
 i23:i2≠i3
 l1:∀ c∈[z,TO,i1,i2,i3],l1≠c
 l2:∀ c∈[z,TO,i1,i2,i3],l2≠c
 l3:∀ c∈[z,TO,i1,i2,i3],l3≠c
section
variable {prog:Program} {w:World} {A:Around} {E:Value->Shared->Prop} {s:Shared} {z TI TO i1 i2 i3 l1 l2 l3:Addr} {n n2 n3:Nat} {P1 P2 P3:Nat->Value->Prop} {st1 st2 st3:Nat->Heap->Prop}
end
section
variable (k1 k2 k3:Sk) (h:Heap) (a b d:Addr)
end
section
variable {X:Cx} {es:List Expr} {x1:Nat} {tpos:Pos}
end
section
variable {K:PySem.W.Frag} {own:Nat} {fr:List Nat} {g:TG} {te:TE} {σ:St} {H:Hp} {Qf:Hp->List V->Prop}
end
section
variable {X:Cx} {K:PySem.W.Frag}
theorem aAV (hK:X.K=K):MtR X "list.count" (fun x vs H Q=>∃ (a:Addr) (ns:List Int) (n:Int),x=.ref a/\vs = [.int n]/\SqL K H a (ns.map V.int)/\Q (.int (ns.count n:Nat)) H):=by
 subst hK
 intro pins s σ H x v vs us Q I rx r h
 obtain ⟨a,ns,n,rfl,rfl,ha,q⟩:=h
 obtain ⟨u,rfl,t,rfl⟩:=gG r
 cases rx
 obtain ⟨its,rv,⟨⟨cls,dd,data,sl⟩,k,ho,hc,hdd,hd⟩,hzz⟩:=I.list ha
 simp only at hc hd
 subst hc hd
 have hi:IntsAre its ns:=xP rv
 refine call_meets PySem.F.slot_list_count ⟨_,ho,rfl⟩ PySem.F.entry_list_count (PySem.F.args_list_count_2 _ _) (SeqAt.list_countAt a its.toArray k dd sl (.int n t) (isInt n)) ⟨ho,fun y hy=>(eq_isInt n t hi y (by simpa using hy)).at _ _,?_⟩
 have e:(its.toArray.toList.countP (isInt n))=ns.count n:=by
  simp only [Xe]
  clear q r ha rv ho hzz hdd
  induction hi with
  | nil=>rfl
  | cons m t' _ ih =>
   rw [List.countP_cons,Js,ih]
   rfl
 rw [e]
 exact ⟨.int _,H,I.tok _,⟨_,rfl⟩,q⟩
end
section
variable {X:Cx} {scope:Scope} {own frn:List Str} {fr:List Nat} {kx vx tg iter:Expr} {ifs:List Expr} {pos:Pos} {wi:TI} {g:TG} {tt:TT} {tk tv:TE}
end
section
variable {X:Cx} {scope:Scope} {own frn:List Str} {fr:List Nat} {e elt tg d:Expr} {ifs:List Expr} {pos:Pos} {t td:TE} {g:TG} {tt:TT} {te:TE}
end
theorem aAW {a:Addr} {o:Obj} {kvs:List (Key×V)} {own:Nat} {fr:List Nat} {g:TG} {tt:TT} {te:TE} {σ:St} {H:Hp} {Q:Hp->List V->Prop} (SH:St->Prop) (Pv:Nat->List V->Hp->Prop) (hn:kvs.length<=sizeLine) (hσ:SH (blk own fr σ)) (h0:Pv 0 [] H) (hlen:∀ i ys H,Pv i ys H->ys.length<=i) (hl:∀ i ys H,Pv i ys H->H a=some (.frz o (.dK kvs)))
  (hs:∀ i ys σ p H,kvs[i]?=some p->SH σ->Pv i ys H->ys.length < sizeLine->g (kV p.1) σ H fun σ2 H2=>tt σ2 H2 fun b H3=>if b=true then te σ2 H3 fun y H4=>ys.length < sizeLine/\SH σ2/\Pv (i+1) (ys++[y]) H4 else SH σ2/\Pv (i+1) ys H3)
  (hd:∀ ys H,Pv kvs.length ys H->Q H ys) :
  ∃ W:Nat->Nat->List V->St->Hp->Prop,(∃ m,W 0 m [] (blk own fr σ) H)/\∀ i m ys σ' H,W i m ys σ' H ->
   ((Itd a o kvs).stop i H/\Q H ys) ∨
   ((Itd a o kvs).go i H/\∃ N:List V->St->Hp->Prop,(∀ ys' σ2 H2,N ys' σ2 H2->∃ m',m' < m/\W (i+1) m' ys' σ2 H2) /\
    ∀ x H',(Itd a o kvs).yld i H x H'->g x σ' H' fun σ2 H2=>tt σ2 H2 fun b H3=>if b=true then te σ2 H3 fun y H4=>ys.length < sizeLine/\N (ys++[y]) σ2 H4 else N ys σ2 H3):=by
 refine mH kvs.length hn SH Pv hσ h0 hlen (fun ys H p=>⟨hl _ _ _ p,rfl⟩) (fun i ys H hi p=>⟨hl _ _ _ p,hi⟩) (fun i ys σ x H H' hi sh p y hz=>?_) hd
 obtain ⟨rfl,v,hv,rfl⟩:=y
 exact hs i ys σ v _ hv sh p hz
section
variable {X:Cx}
theorem aB4:aE3 X (fun x y H Q=>∃ p xs i v,x=.ref p/\y=.int i/\SqL X.K H p xs/\0<=i/\xs[i.toNat]?=some v/\Q v H):=by
 intro pins s σ H o i ov iv Q I ro ri h
 obtain ⟨p,xs,k,z,rfl,rfl,hq,h0,he,q⟩:=h
 cases ro
 obtain ⟨t,rfl⟩:=ri
 obtain ⟨its,r,pl,hz⟩:=I.list hq
 obtain ⟨w,ew,rw'⟩:=r.get he
 have hlt:k.toNat < xs.length:=(Qc.mp he).1
 have hsz:sizeLine < 2^62:=by rw [sizeLine_eq]; decide
 exact wpAny_getItem_list (Q:=EP X pins σ Q) pl.isList h0 (by omega) (by simpa using ew) ⟨z,H,I,rw',q⟩
end
structure Fn (K:PySem.W.Frag) (mg:Str->Option Value) (x:Str) (st:Stmt) (ps:List Str) (f:Addr) (fd:FuncData):Prop where
 fn:Fun K x x st f fd
 mgx:mg x=some (.ref f)
 kp:PySem.W.keepIn K (.ref f)=true
 bd:mC K fd ps []
theorem bI {X:Cx} {x:Str} {st:Stmt} {ps:List Str} {f:Addr} {fd:FuncData} {k:Nat} {sp:Sp} {p pos:Pos} {e:Expr} {es:List Expr} {t:TA} (G:Fn X.K X.mg x st ps f fd) (ok:FnOk X.prog X.w X.K X.mg X.base CX0 k f fd ps sp) (hr:Room k X.A) (hg:Gl X x) (ha:PA X (e::es) t)
  (hdb:(x==("__debug__" : Str))=false:=by decide) (he:starEach (e::es) X.env=(false,eval e X.env)::starEach es X.env:=by rfl) (hpl:(backTo pos (starEach es X.env)).any (·.1)=false:=by rfl) :
  PE X (.Call (.Name x p) (e::es) [] pos) (rR sp [] E0 t):=zI ok hr hg G.mgx G.kp G.bd .nil aDL ha hdb he hpl
structure Bl (mg:Str->Option Value):Prop where
 isinstance:mg "isinstance" = none
 int:mg "int" = none
 bool:mg "bool" = none
 tuple:mg "tuple" = none
 list:mg "list" = none
 len:mg "len" = none
 all:mg "all" = none
 zip:mg "zip" = none
 range:mg "range" = none
 sorted:mg "sorted" = none
 set:mg "set" = none
 sum:mg "sum" = none
 repr:mg "repr" = none
 enumerate:mg "enumerate" = none
 min:mg "min" = none
 any:mg "any" = none
 ve:mg "ValueError" = none
 hands:∃ t,mg "MOST_HANDS" = some (.int 6 t)
 works:∃ t,mg "MOST_WORKS" = some (.int 12 t)
 mr:∃ t,mg "MOST_ROOM" = some (.int 12 t)
theorem lK:bootBuiltins "isinstance" = some (.builtin "isinstance"):=by decide +kernel
theorem aFv:bootBuiltins "int" = some (.type "int"):=by decide +kernel
theorem aED:bootBuiltins "bool" = some (.type "bool"):=by decide +kernel
theorem cP:bootBuiltins "tuple" = some (.type "tuple"):=by decide +kernel
theorem aEE:bootBuiltins "list" = some (.type "list"):=by decide +kernel
theorem gD:bootBuiltins "len" = some (.builtin "len"):=by decide +kernel
theorem wJ:bootBuiltins "all" = some (.builtin "all"):=by decide +kernel
theorem aAc:bootBuiltins "range" = some (.type "range"):=by decide +kernel
theorem aB5:bootBuiltins "sorted" = some (.builtin "sorted"):=by decide +kernel
theorem aFw:bootBuiltins "set" = some (.type "set"):=by decide +kernel
theorem aFx:bootBuiltins "sum" = some (.builtin "sum"):=by decide +kernel
end L2
namespace Ab
open PySem L2
def top (i:Nat):Stmt:=PySem.Challenge.pw_ablehands_k21_no_rooms.main.body.getD i (.Pass ⟨0,0,0,0⟩)
abbrev lR:Stmt:=top 16
abbrev qA:Stmt:=top 17
abbrev qB:Stmt:=top 18
abbrev qC:Stmt:=top 19
abbrev yH:Stmt:=top 20
abbrev kX:Stmt:=top 22
abbrev iN:Stmt:=top 24
abbrev kG:Stmt:=top 25
abbrev qF:Stmt:=top 26
abbrev fP:Stmt:=top 29
abbrev gU:Stmt:=top 30
abbrev wK:Stmt:=top 31
abbrev iO:Stmt:=top 32
abbrev lT:Stmt:=top 33
abbrev wL:Stmt:=top 35
abbrev aAd:Stmt:=top 37
abbrev jB:Stmt:=top 38
abbrev sL:Stmt:=top 39
abbrev aAe:Stmt:=top 40
abbrev qG:Stmt:=top 42
abbrev aAf:Stmt:=top 43
abbrev fT:Stmt:=top 44
abbrev aDi:Stmt:=top 45
abbrev wM:Stmt:=top 46
abbrev uD:Stmt:=top 47
abbrev wN:Stmt:=top 48
abbrev mL:Stmt:=top 49
abbrev aDj:Stmt:=top 50
def gA:PyData->Bool
 | .int _=>true
 | _=>false
def gW:PyData->Bool
 | .int i=>decide (1<=i) && decide (i<=6)
 | _=>false
def cX (hands:Int):Int->List PyData->Bool
 | _,[]=>true
 | last,.int i::r=>decide (last < i) && decide (i < hands) && cX hands i r
 | _,_::_=>false
def bS (hands:Int):PyData->Bool
 | .tuple ds=>!ds.isEmpty && cX hands (-1) ds
 | _=>false
def aEF:PyData->PyData->Bool
 | .int h,.tuple ws=>decide (1<=h) && decide (h<=6) && decide (ws.length<=12) && ws.all (bS h)
 | _,_=>false
def bN:PyData->Bool
 | .tuple [dh,dw]=>aEF dh dw
 | _=>false
section
variable {P:Program} {w:World} {K:PySem.W.Frag} {mg:Str->Option Value} {base:Heap}
def jC (K:PySem.W.Frag):Sp:=fun vs H Q _=>∃ x d,vs = [x]/\Den K H d x/\Q (.bl (gA d)) H
theorem aDk:FnScope ["thing"] ["thing"] (aO lR):=⟨rfl,rfl,rfl,by decide +kernel,rfl,by decide +kernel,by decide +kernel⟩
theorem iP {f:Addr} {fd:FuncData} (G:Fn K mg "is_whole" lR ["thing"] f fd) (B:Bl mg):FnOk P w K mg base CX0 1 f fd ["thing"] (jC K):=by
 refine G.fn.ok aDk (fun vs H Q E h=>?_) (fun cdv A outer s H vs Q E hr h=>?_)
 ·obtain ⟨x,d,rfl,_⟩:=h
  rfl
 ·obtain ⟨x,d,rfl,hd,k⟩:=h
  refine ⟨_,aL (bA (tE (aT tL rfl B.isinstance lK (aA (pv 0) (aA (gI (v:=.ty "int") rfl B.int aFv rfl) aE)))
   (tD (aD3 (aT rA rfl B.isinstance lK (aA (pv 0) (aA (gI (v:=.ty "bool") rfl B.bool aED rfl) aE))))))),?_⟩
  refine ⟨_,rfl,x,iU d,rfl,hd.kd,_,rfl,?_⟩
  refine cR (fun c=>?_) (fun c=>?_)
  ·refine ⟨_,rfl,x,iU d,rfl,hd.kd,_,rfl,?_⟩
   have e:(!decide (iU d=Kd.bl))=gA d:=by
    cases d <;> first | rfl | (exfalso; simp [iU] at c)
   rw [e]
   exact k
  ·have e:false=gA d:=by
    cases d <;> first | rfl | (exfalso; simp [iU] at c)
   rw [e]
   exact k
def aAg (K:PySem.W.Frag):Sp:=fun vs H Q _=>∃ x d,vs = [x]/\Den K H d x/\Q (.bl (gW d)) H
theorem aDl:FnScope ["thing"] ["thing"] (aO qA):=⟨rfl,rfl,rfl,by decide +kernel,rfl,by decide +kernel,by decide +kernel⟩
theorem aB6 {f fW:Addr} {fd fdW:FuncData} (G:Fn K mg "are_hands" qA ["thing"] f fd) (B:Bl mg) (W:Fn K mg "is_whole" lR ["thing"] fW fdW):FnOk P w K mg base CX0 2 f fd ["thing"] (aAg K):=by
 have GW:FnOk P w K mg base CX0 1 fW fdW ["thing"] (jC K):=iP W B
 obtain ⟨t6,h6⟩:=B.hands
 refine G.fn.ok aDl (fun vs H Q E h=>?_) (fun cdv A outer s H vs Q E hr h=>?_)
 ·obtain ⟨x,d,rfl,_⟩:=h
  rfl
 ·obtain ⟨x,d,rfl,hd,k⟩:=h
  refine ⟨_,aL (bA (tE (bI W GW hr rfl (aA (pv 0) aE))
   (tD (oW nR nR aH (pv 0) (lY (v:=.int 6) rfl h6 ⟨t6,rfl⟩))))),?_⟩
  refine ⟨_,rfl,x,d,rfl,hd,_,rfl,?_⟩
  refine cR (fun c=>?_) (fun c=>?_)
  ·obtain ⟨i,rfl⟩:∃ i,d=.int i:=by cases d <;> first | exact ⟨_,rfl⟩ | (exfalso; simp [gA] at c)
   obtain rfl:=bQ.mp hd
   refine ⟨_,rfl,_,_,rfl,rfl,_,rfl,?_⟩
   refine cR (fun c1=>?_) (fun c1=>?_)
   ·refine ⟨_,_,rfl,rfl,?_⟩
    have e:decide (i<=6)=gW (.int i):=by
     show _=(decide (1<=i) && decide (i<=6))
     rw [c1,Xg]
    show Q (.bl (decide (i<=6))) H
    rw [e]; exact k
   ·have e:false=gW (.int i):=by
     show _=(decide (1<=i) && decide (i<=6))
     have c2:decide (1<=i)=false:=by simpa using c1
     rw [c2,Xw]
    rw [e]; exact k
  ·have e:false=gW d:=by cases d <;> first | rfl | (exfalso; simp [gA] at c)
   rw [e]; exact k
theorem gF (h l i:Int) (r:List PyData):cX h l (.int i::r)=(decide (l < i) && decide (i < h) && cX h i r):=by rw [cX]
theorem qH (h l:Int) (d:PyData) (r:List PyData) (n:gA d=false):cX h l (d::r)=false:=by
 cases d <;> first | rfl | (simp [gA] at n)
def uE (K:PySem.W.Frag):Sp:=fun vs H Q _=>∃ n x d,vs = [.int n,x]/\Den K H d x/\Q (.bl (bS n d)) H
theorem oK:FnScope ["hands", "thing", "last", "hand"] ["hands", "thing"] (aO qB):=⟨rfl,rfl,rfl,by decide +kernel,rfl,by decide +kernel,by decide +kernel⟩
theorem wO {f fW:Addr} {fd fdW:FuncData} (G:Fn K mg "is_work" qB ["hands", "thing"] f fd) (B:Bl mg) (W:Fn K mg "is_whole" lR ["thing"] fW fdW):FnOk P w K mg base CX0 2 f fd ["hands", "thing"] (uE K):=by
 have GW:FnOk P w K mg base CX0 1 fW fdW ["thing"] (jC K):=iP W B
 refine G.fn.ok oK (fun vs H Q E h=>?_) (fun cdv A outer s H vs Q E hr h=>?_)
 ·obtain ⟨n,x,d,rfl,_⟩:=h
  rfl
 ·obtain ⟨n,x,d,rfl,hd,k⟩:=h
  refine ⟨_,aG (bW (PW.pt (iI (dZ (cZ (aT cS rfl B.isinstance lK (aA (pv 1) (aA (gI (v:=.ty "tuple") rfl B.tuple cP rfl) aE)))))
    (gE (aW jQ (aT bC rfl B.len gD (aA (pv 1) aE)) aH (bD _))))) (aL (bA eX)) bH)
   (aG (aX (i:=2) oK.nd rfl (Or.inl rfl) (rP mV aH))
   (aG (eP PassesOwn.never rfl (iC (pv 1)) (aS (i:=3) oK.nd rfl (Or.inl rfl))
    (aG (bW (PW.pt (iI (dZ (cZ (bI W GW hr rfl (aA (pv 3) aE)))) (iI (aW nR (pv 3) (pv 2) (bD _)) (gE (aW zH (pv 3) (pv 0) (bD _)))))) (aL (bA eX)) bH)
    (aL (aX (i:=2) oK.nd rfl (Or.inl rfl) (pv 3)))))
   (aL (bA eX)))),?_⟩
  refine ⟨_,rfl,x,iU d,rfl,hd.kd,_,rfl,?_⟩
  refine cR (fun c=>?_) (fun c=>?_)
  ·-- not a tuple
   refine eD ?_
   have e:false=bS n d:=by
    cases d <;> first | rfl | (exfalso; simp [iU] at c)
   rw [e]; exact k
  ·obtain ⟨ds,rfl⟩:∃ ds,d=.tuple ds:=by cases d <;> first | exact ⟨_,rfl⟩ | (exfalso; simp [iU] at c)
   obtain ⟨a,xs,rfl,ha,hds⟩:=bE.mp hd
   have hl:=aN hds
   refine ⟨_,rfl,a,xs,rfl,.inr ha,rfl,_,rfl,?_⟩
   refine cR (fun c2=>?_) (fun c2=>?_)
   ·have e:false=bS n (.tuple ds):=by
     have e1:ds = []:=by
      have:(xs.length:Int)=0:=by simpa using c2
      exact Zi.mp (by omega)
     rw [e1]; rfl
    rw [e]; exact k
   ·have hne:ds≠[]:=by
     intro z
     apply c2
     rw [z] at hl
     simp [hl]
    have e0:bS n (.tuple ds)=cX n (-1) ds:=by
     show (!ds.isEmpty && cX n (-1) ds)=_
     cases ds with
     | nil=>exact absurd rfl hne
     | cons _ _=>rfl
    rw [e0] at k
    refine ⟨_,rfl,?_⟩
    refine ⟨_,rfl,a,rfl,⟨xs,ha⟩,tG (K:=K) (a:=a) (xs:=xs) (fun i σ H2=>∃ (last:Int) (v:Option V),σ = [some (.int n),some (.ref a),some (.int last),v]/\H2=H/\cX n (-1) ds=cX n last (ds.drop i))
     ⟨-1,none,rfl,rfl,rfl⟩ (fun i σ H2 _ ⟨_,_,_,e,_⟩=>by rw [e]; exact ha) ?_ ?_⟩
    ·rintro i y σ H2 hi ⟨last,v,rfl,rfl,hr2⟩
     obtain ⟨dy,hdy,hden⟩:=cC hds hi
     have hdrop:ds.drop i=dy::ds.drop (i+1):=by
      obtain ⟨hlt,e⟩:=Qc.mp hdy
      rw [Zz hlt,e]
     rw [hdrop] at hr2
     refine ⟨_,rfl,y,dy,rfl,hden,_,rfl,?_⟩
     refine cR (fun c3=>?_) (fun c3=>?_)
     ·refine eD ?_
      have e:false=cX n (-1) ds:=by rw [hr2,qH]; simpa using c3
      rw [e]; exact k
     ·obtain ⟨j,rfl⟩:∃ j,dy=.int j:=by cases dy <;> first | exact ⟨_,rfl⟩ | (exfalso; simp [gA] at c3)
      obtain rfl:=bQ.mp hden
      rw [gF] at hr2
      refine ⟨_,rfl,_,rfl,_,_,rfl,rfl,_,rfl,?_⟩
      refine cR (fun c4=>?_) (fun c4=>?_)
      ·refine eD ?_
       have c4':j<=last:=of_decide_eq_true c4
       have e:false=cX n (-1) ds:=by rw [hr2,decide_eq_false (by omega:¬ last < j)]; rfl
       rw [e]; exact k
      ·have c4':¬ j<=last:=fun z=>c4 (decide_eq_true z)
       refine ⟨_,rfl,_,rfl,_,_,rfl,rfl,_,rfl,?_⟩
       refine cR (fun c5=>?_) (fun c5=>?_)
       ·have c5':n<=j:=of_decide_eq_true c5
        have e:false=cX n (-1) ds:=by rw [hr2,decide_eq_false (by omega:¬ j < n),Zn]; rfl
        rw [e]; exact k
       ·have c5':¬ n<=j:=fun z=>c5 (decide_eq_true z)
        refine ⟨_,rfl,j,some (.int j),rfl,rfl,?_⟩
        rw [hr2,decide_eq_true (by omega:last < j),decide_eq_true (by omega:j < n)]
        rfl
    ·rintro σ H2 ⟨last,v,rfl,rfl,hr2⟩
     have e:true=cX n (-1) ds:=by
      rw [hr2,hl,List.drop_length]
      rfl
     show Q (.bl true) _
     rw [e]; exact k
theorem jD {i:Nat} {x:V} {σ:St} {H:Hp} {A B:St->Hp->Prop} (h:A (σ.set i (some x)) H):fU i x σ H fun σ2 H2=>aBs σ2 H2 fun b H3=>if b=true then A σ2 H3 else B σ2 H3:=by
 show if true=true then A (σ.set i (some x)) H else B (σ.set i (some x)) H
 exact eD h
def uF (K:PySem.W.Frag):Sp:=fun vs H Q _=>∃ x d,vs = [x]/\Den K H d x/\∀ H',aF H H'->Q (.bl (bN d)) H'
theorem uG:FnScope ["thing", "hands", "works"] ["thing"] (aO qC):=⟨rfl,rfl,rfl,by decide +kernel,rfl,by decide +kernel,by decide +kernel⟩
theorem wP {f fW fH fK:Addr} {fd fdW fdH fdK:FuncData} (G:Fn K mg "is_book" qC ["thing"] f fd) (B:Bl mg) (W:Fn K mg "is_whole" lR ["thing"] fW fdW) (GH:Fn K mg "are_hands" qA ["thing"] fH fdH) (GK:Fn K mg "is_work" qB ["hands", "thing"] fK fdK):FnOk P w K mg base CX0 3 f fd ["thing"] (uF K):=by
 have OH:FnOk P w K mg base CX0 2 fH fdH ["thing"] (aAg K):=aB6 GH B W
 have OK:FnOk P w K mg base CX0 2 fK fdK ["hands", "thing"] (uE K):=wO GK B W
 obtain ⟨t12,h12⟩:=B.works
 refine G.fn.ok uG (fun vs H Q E h=>?_) (fun cdv A outer s H vs Q E hr h=>?_)
 ·obtain ⟨x,d,rfl,_⟩:=h
  rfl
 ·obtain ⟨x,d,rfl,hd,k⟩:=h
  refine ⟨_,aG (bW (PW.pt (iI (dZ (cZ (aT cS rfl B.isinstance lK (aA (pv 0) (aA (gI (v:=.ty "tuple") rfl B.tuple cP rfl) aE)))))
    (gE (aW lE (aT bC rfl B.len gD (aA (pv 0) aE)) aH (bD _))))) (aL (bA eX)) bH)
   (aG (lL (pv 0) (jN rfl (bX (aS (i:=1) uG.nd rfl (Or.inr rfl)) (bX (aS (i:=2) uG.nd rfl (Or.inl rfl)) hG))))
   (aG (bW (dZ (cZ (bI GH OH hr rfl (aA (pv 1) aE)))) (aL (bA eX)) bH)
   (aG (bW (PW.pt (iI (dZ (cZ (aT cS rfl B.isinstance lK (aA (pv 2) (aA (gI (v:=.ty "tuple") rfl B.tuple cP rfl) aE)))))
    (gE (aW zG (aT bC rfl B.len gD (aA (pv 2) aE)) (lY (v:=.int 12) rfl h12 ⟨t12,rfl⟩) (bD _))))) (aL (bA eX)) bH)
   (aL (bA (aT (jY rfl) rfl B.all wJ (aA
    (dX (own:=["work"]) (fr:=[1]) (frn:=["hands"]) (bT (aO qC) ["thing", "hands", "works"] rfl rfl (by decide +kernel)) rfl (iC (pv 2))
     (fun _ _ _ _=>aS (i:=0) (show (["work", "hands"]:List Str).Nodup by decide +kernel) rfl (Or.inl rfl)) (fun _ _ _ _=>iE) (fun _ _ _ _=>bI GK OK hr rfl (aA (pv 1) (aA (pv 0) aE)))) aE))))))),?_⟩
  refine ⟨_,rfl,x,iU d,rfl,hd.kd,_,rfl,?_⟩
  refine cR (fun c=>?_) (fun c=>?_)
  ·refine eD ?_
   have e:false=bN d:=by
    cases d <;> first | rfl | (exfalso; simp [iU] at c)
   rw [e]; exact k H (aF.refl H)
  ·obtain ⟨ds,rfl⟩:∃ ds,d=.tuple ds:=by cases d <;> first | exact ⟨_,rfl⟩ | (exfalso; simp [iU] at c)
   obtain ⟨a,xs,rfl,ha,hds⟩:=bE.mp hd
   have hl:=aN hds
   refine ⟨_,rfl,a,xs,rfl,.inr ha,rfl,_,rfl,?_⟩
   refine cR (fun c2=>?_) (fun c2=>?_)
   ·have e:false=bN (.tuple ds):=by
     match ds,hl,c2 with
     | [],_,_=>rfl
     | [_],_,_=>rfl
     | [_,_],hl,c2=>exfalso; rw [hl] at c2; simp at c2
     | _::_::_::_,_,_=>rfl
    rw [e]; exact k H (aF.refl H)
   ·obtain ⟨dh,dw,rfl⟩:∃ dh dw,ds = [dh,dw]:=by
     match ds,hl,c2 with
     | [],hl,c2=>exfalso; rw [hl] at c2; simp at c2
     | [_],hl,c2=>exfalso; rw [hl] at c2; simp at c2
     | [p,q],_,_=>exact ⟨p,q,rfl⟩
     | p::q::r::t,hl,c2=>exfalso; apply c2; rw [hl]; simp; omega
    obtain ⟨xh,r1,rfl,hh,h2⟩:=aP.mp hds
    obtain ⟨xw,r2,rfl,hw,h3⟩:=aP.mp h2
    obtain rfl:=aV.mp h3
    -- hands,works=thing
    refine ⟨_,rfl,a,_,rfl,ha,rfl,_,_,rfl,_,_,rfl,rfl,?_⟩
    -- are_hands(hands)
    refine ⟨_,rfl,xh,dh,rfl,hh,_,rfl,?_⟩
    refine cR (fun c3=>?_) (fun c3=>?_)
    ·have e:false=bN (.tuple [dh,dw]):=by
      have c3':gW dh=false:=by simpa using c3
      cases dh with
      | int n =>
       cases dw with
       | tuple ws =>
        have c4:(decide (1<=n) && decide (n<=6))=false:=c3'
        show _=(decide (1<=n) && decide (n<=6) && decide (ws.length<=12) && ws.all (bS n))
        rw [c4]; rfl
       | _=>rfl
      | _=>rfl
     rw [e]; exact k H (aF.refl H)
    ·obtain ⟨n,rfl,hn⟩:∃ n,dh=.int n/\(decide (1<=n) && decide (n<=6))=true:=by
      cases dh <;> first | exact ⟨_,rfl,by simpa [gW] using c3⟩ | (exfalso; simp [gW] at c3)
     obtain rfl:=bQ.mp hh
     refine ⟨_,rfl,xw,iU dw,rfl,hw.kd,_,rfl,?_⟩
     refine cR (fun c5=>?_) (fun c5=>?_)
     ·refine eD ?_
      have e:false=bN (.tuple [.int n,dw]):=by
       cases dw <;> first | rfl | (exfalso; simp [iU] at c5)
      rw [e]; exact k H (aF.refl H)
     ·obtain ⟨ws,rfl⟩:∃ ws,dw=.tuple ws:=by cases dw <;> first | exact ⟨_,rfl⟩ | (exfalso; simp [iU] at c5)
      obtain ⟨b,ys,rfl,hb,hws⟩:=bE.mp hw
      have hlw:=aN hws
      have eB:bN (.tuple [.int n,.tuple ws])=(decide (ws.length<=12) && ws.all (bS n)):=by
       show (decide (1<=n) && decide (n<=6) && decide (ws.length<=12) && ws.all (bS n))=_
       rw [hn,Xg]
      rw [eB] at k
      refine ⟨_,rfl,b,ys,rfl,.inr hb,_,_,rfl,rfl,_,rfl,?_⟩
      refine cR (fun c6=>?_) (fun c6=>?_)
      ·have c6':(12:Int) < ys.length:=of_decide_eq_true c6
       have e:false=(decide (ws.length<=12) && ws.all (bS n)):=by rw [decide_eq_false (by omega:¬ ws.length<=12)]; rfl
       rw [e]; exact k H (aF.refl H)
      ·have c6':¬ (12:Int) < ys.length:=fun z=>c6 (decide_eq_true z)
       have e1:decide (ws.length<=12)=true:=decide_eq_true (by omega)
       rw [e1,Xg] at k
       refine ⟨_,rfl,b,rfl,⟨ys,hb⟩,vJ (K:=K) (a:=b) (xs:=ys) (fun σ=>∃ v,σ = [v,some (.int n)]) (fun i zs H2=>H2=H/\zs=((ws.take i).map (bS n)).map V.bl) ?_ ⟨none,rfl⟩ ⟨rfl,rfl⟩ ?_ ?_ ?_ ?_⟩
       ·rw [sizeLine_eq]; omega
       ·rintro i zs H2 ⟨_,rfl⟩
        rw [Qb,Qb,Jd]; omega
       ·rintro i zs H2 ⟨rfl,_⟩
        exact hb
       ·rintro i zs σ x H2 hx ⟨v,rfl⟩ ⟨rfl,rfl⟩ hz
        obtain ⟨dx,hdx,hden⟩:=cC hws hx
        refine jD ?_
        refine ⟨_,rfl,_,rfl,n,x,dx,rfl,hden,hz,⟨some x,rfl⟩,rfl,?_⟩
        rw [Jz,hdx]
        simp
       ·rintro zs H2 ⟨rfl,rfl⟩ p hp
        refine ⟨p,_,rfl,SqL.of aC,?_⟩
        have e2:((ws.take ys.length).map (bS n)).all id=ws.all (bS n):=by
         rw [hlw,Xk,Zy]
         rfl
        rw [e2]
        exact k _ (aF.new hp)
end
def cT (l:List Int):PyData:=.tuple (l.map .int)
def bY (n:Int) (ws:List (List Int)):PyData:=.tuple [.int n,.tuple (ws.map cT)]
def aB7 (hs:List Int):PyData:=.tuple (hs.map .int)
def uH:PyData->List Int->Bool
 | .int i,l=>l.any (·==i)
 | _,_=>false
def aDR (ws:List (List Int)):PyData->Bool
 | .tuple hs=>decide (hs.length=ws.length) && (hs.zip ws).all fun p=>uH p.1 p.2
 | _=>false
theorem sM (l:List Int):(l.map V.int).all mF=true:=by
 rw [Zy]
 exact Ja.mpr fun _ _=>rfl
theorem uI (i:Int) (l:List Int):inV (.int i) (l.map V.int)=l.any (·==i):=by
 unfold inV
 rw [Wb]
 rfl
theorem eJ {K:PySem.W.Frag} {H:Hp} {n:Int} {ws:List (List Int)} {x:V} (h:Den K H (bY n ws) x):∃ a b ys,x=.ref a/\SqT K H a [.int n,.ref b]/\SqT K H b ys/\aU K H (ws.map cT) ys:=by
 obtain ⟨a,xs,rfl,ha,hds⟩:=bE.mp h
 obtain ⟨xh,r1,rfl,hh,h2⟩:=aP.mp hds
 obtain ⟨xw,r2,rfl,hw,h3⟩:=aP.mp h2
 obtain rfl:=aV.mp h3
 obtain rfl:=bQ.mp hh
 obtain ⟨b,ys,rfl,hb,hys⟩:=bE.mp hw
 exact ⟨a,b,ys,rfl,ha,hb,hys⟩
theorem cK {n:Int} {ws:List (List Int)} (h:bN (bY n ws)=true):1<=n/\n<=6/\ws.length<=12/\∀ l∈ws,bS n (cT l)=true:=by
 have h':(decide (1<=n) && decide (n<=6) && decide ((ws.map cT).length<=12) && (ws.map cT).all (bS n))=true:=h
 simp only [Qv,decide_eq_true_eq,Qb,Ja] at h'
 exact ⟨h'.1.1.1,h'.1.1.2,h'.1.2,fun l hl=>h'.2 _ (Jl.mpr ⟨l,hl,rfl⟩)⟩
theorem aDm {X:Cx} {pos:Pos} {es:List Expr} {k:Nat} {t:TGs} {n:Nat} {K:PySem.W.Frag} (hK:X.K=K) (hc:X.calm=true) (h:PGs X es t)
  (hn:(assignEach es X.env).length=n:=by rfl) (hst:(assignEach es X.env).findIdx? (·.1)=none:=by rfl):PG X (.Tuple es k pos) (aE1 K n t):=by
 subst hK
 exact jN hc h hn hst
section
variable {X:Cx} {K:PySem.W.Frag}
theorem yI (hK:X.K=K):OpR X (compareOp .In) (rIn K false):=by subst hK; exact mX
theorem jE (hK:X.K=K):IxR X (aBl K):=by subst hK; exact eA
theorem rM (hK:X.K=K):dP X (.builtin "len") (fun xs H Q=>∃ p ys,xs = [.ref p]/\(SqL K H p ys∨SqT K H p ys)/\Q (.int ys.length) H):=by subst hK; exact bC
end
section
variable {P:Program} {w:World} {K:PySem.W.Frag} {mg:Str->Option Value} {base:Heap}
structure Pr (K:PySem.W.Frag) (mg:Str->Option Value) (fW fH fK fB fNB:Addr) (dW dH dK dB dNB:FuncData):Prop where
 W:Fn K mg "is_whole" lR ["thing"] fW dW
 H:Fn K mg "are_hands" qA ["thing"] fH dH
 Kw:Fn K mg "is_work" qB ["hands", "thing"] fK dK
 B:Fn K mg "is_book" qC ["thing"] fB dB
 NB:Fn K mg "need_book" yH ["book"] fNB dNB
variable {fW fH fK fB fNB:Addr} {dW dH dK dB dNB:FuncData}
def oM (K:PySem.W.Frag):Sp:=fun vs H Q _=>∃ x d,vs = [x]/\Den K H d x/\bN d=true/\∀ H',aF H H'->Q .non H'
theorem aAh:FnScope ["book"] ["book"] (aO yH):=⟨rfl,rfl,rfl,by decide +kernel,rfl,by decide +kernel,by decide +kernel⟩
theorem qI (B:Bl mg) (R:Pr K mg fW fH fK fB fNB dW dH dK dB dNB):FnOk P w K mg base CX0 4 fNB dNB ["book"] (oM K):=by
 have OB:FnOk P w K mg base CX0 3 fB dB ["thing"] (uF K):=wP R.B B R.W R.H R.Kw
 refine R.NB.fn.ok aAh (fun vs H Q E h=>?_) (fun cdv A outer s H vs Q E hr h=>?_)
 ·obtain ⟨x,d,rfl,_⟩:=h
  rfl
 ·obtain ⟨x,d,rfl,hd,hb,k⟩:=h
  refine ⟨_,aL (bW (dZ (cZ (bI R.B OB hr rfl (aA (pv 0) aE)))) fX bH),?_⟩
  refine ⟨_,rfl,x,d,rfl,hd,fun H' hs=>⟨_,rfl,?_⟩⟩
  rw [hb]
  refine eQ ?_
  exact k H' hs
end
def cL (n:Int) (hs:List Int):List Int:=(cV n.toNat).map fun h=>((hs.count h:Nat):Int)
theorem aB8 {n i:Nat} (h:i < n):(cV n)[i]?=some (i:Int):=by
 unfold cV
 rw [Qh,Zu h]
 rfl
theorem kH (n:Nat):(cV n).length=n:=by unfold cV; rw [Qb,Zl]
theorem uJ {X:Cx} {K:PySem.W.Frag} {o e:Expr} {es:List Expr} {to:TE} {t:TA} {name:Str} {apos cpos:Pos} {T id:String} {r:V->List V->Hp->VK->Prop} (hK:X.K=K) (pa:PlainAttrs T) (slot:Slot T name id) (hty:typeOf (.builtin id)=pure (.type "method_descriptor")) (hm:MtR X id r) (ho:PE X o to) (ha:PA X (e::es) t)
  (hbase:attributeBase o name X.env (eval o X.env)=eval o X.env:=by rfl)
  (hfew:((backTo cpos (starEach (e::es) X.env)).all (fun x=>!x.1) && (backToKw cpos (keywordEach [] X.env)).all (fun x=>x.1.isSome)
   && decide ((e::es).length+([]:List Keyword).length+(if ([]:List Keyword).isEmpty then 0 else 1) < 30))=true:=by rfl)
  (hline:(apos.endLine==cpos.line)=true:=by rfl) (hs:starEach (e::es) X.env=(false,eval e X.env)::starEach es X.env:=by rfl) (hplain:(backTo cpos (starEach es X.env)).any (·.1)=false:=by rfl) :
  PE X (.Call (.Attribute o name apos) (e::es) [] cpos) (tBM K T r to t):=by
 subst hK
 exact nU pa slot hty hm ho ha hbase hfew hline hs hplain
section
variable {P:Program} {w:World} {K:PySem.W.Frag} {mg:Str->Option Value} {base:Heap}
def yJ (K:PySem.W.Frag) (H:Hp) (x y:V) (n:Int) (ws:List (List Int)) (hs:List Int):Prop:=Den K H (bY n ws) x/\bN (bY n ws)=true/\Den K H (aB7 hs) y/\aDR ws (aB7 hs)=true
theorem yJ.same {H H':Hp} {x y:V} {n:Int} {ws:List (List Int)} {hs:List Int} (g:yJ K H x y n ws hs) (e:aF H H'):yJ K H' x y n ws hs:=⟨e.den _ _ g.1,g.2.1,e.den _ _ g.2.2.1,g.2.2.2⟩
theorem yJ.len {H:Hp} {x y:V} {n:Int} {ws:List (List Int)} {hs:List Int} (g:yJ K H x y n ws hs):hs.length<=12/\1<=n/\n<=6:=by
 obtain ⟨h1,h2,h3,_⟩:=cK g.2.1
 have h:(decide ((hs.map PyData.int).length=ws.length) && ((hs.map PyData.int).zip ws).all fun p=>uH p.1 p.2)=true:=g.2.2.2
 simp only [Qv,decide_eq_true_eq,Qb] at h
 omega
theorem gB (n:Int) (hs:List Int):(cL n hs).length=n.toNat:=by unfold cL; rw [Qb,kH]
end
def But (t:Addr) (H H':Hp):Prop:=∀ b o,b≠t->H b=some o->H' b=some o
theorem But.refl (t:Addr) (H:Hp):But t H H:=fun _ _ _ h=>h
theorem But.trans {t:Addr} {H H1 H2:Hp} (a:But t H H1) (b:But t H1 H2):But t H H2:=fun c o n h=>b c o n (a c o n h)
theorem But.of {t:Addr} {H H':Hp} (a:aF H H'):But t H H':=fun c o _ h=>a c o h
theorem But.at {t:Addr} {H:Hp} {u:HO}:But t H (upd H t u):=fun c o n h=>by rw [aK n]; exact h
theorem But.free {t:Addr} {H H':Hp} (e:But t H H') {l:Addr} (h:H' l=none) (n:l≠t):H l=none:=by
 cases q:H l with
 | none=>rfl
 | some o=>rw [e l o n q] at h; cases h
theorem But.rdL {t a:Addr} {H H':Hp} {xs:List V} (e:But t H H') (n:a≠t) (h:Rd H a (.lst xs)):Rd H' a (.lst xs):=by
 rcases h with h | ⟨o,h⟩
 ·exact .inl (e a _ n h)
 ·exact .inr ⟨o,e a _ n h⟩
section
variable {K:PySem.W.Frag} {t:Addr} {H H':Hp} {ys:List V}
theorem But.seqT {a:Addr} {xs:List V} (e:But t H H') (ht:H t=some (.lst ys)) (h:SqT K H a xs):SqT K H' a xs:=by
 rcases h with (h | ⟨o,h⟩) | h
 ·exact .inl (.inl (e a _ (fun z=>by rw [z,ht] at h; cases h) h))
 ·exact .inl (.inr ⟨o,e a _ (fun z=>by rw [z,ht] at h; cases h) h⟩)
 ·exact .inr h
theorem But.seqL {a:Addr} {xs:List V} (e:But t H H') (n:a≠t) (h:SqL K H a xs):SqL K H' a xs:=by
 rcases h with h | h
 ·exact .inl (e.rdL n h)
 ·exact .inr h
mutual
def dG:PyData->Bool
 | .dict _=>false
 | .list _=>false
 | .tuple ds=>eO ds
 | _=>true
def eO:List PyData->Bool
 | []=>true
 | d::ds=>dG d && eO ds
end
mutual
theorem But.den (e:But t H H') (ht:H t=some (.lst ys)):∀ (d:PyData) (v:V),dG d=true->Den K H d v->Den K H' d v
 | .none,v,_,h=>by unfold Den at h ⊢; exact h
 | .bool b,v,_,h=>by unfold Den at h ⊢; exact h
 | .int i,v,_,h=>by unfold Den at h ⊢; exact h
 | .str x,v,_,h=>by unfold Den at h ⊢; exact h
 | .list ds,v,n,h=>by unfold dG at n; cases n
 | .tuple ds,v,n,h=>by unfold dG at n; unfold Den at h ⊢; obtain ⟨a,xs,h1,h2,h3⟩:=h; exact ⟨a,xs,h1,e.seqT ht h2,But.denAll e ht ds xs n h3⟩
 | .dict kvs,v,n,h=>by unfold dG at n; cases n
theorem But.denAll (e:But t H H') (ht:H t=some (.lst ys)):∀ (ds:List PyData) (xs:List V),eO ds=true->aU K H ds xs->aU K H' ds xs
 | [],xs,_,h=>by unfold aU at h ⊢; exact h
 | d::ds,xs,n,h=>by
  unfold eO at n; rw [Qv] at n
  unfold aU at h ⊢; obtain ⟨x,r,h1,h2,h3⟩:=h; exact ⟨x,r,h1,But.den e ht d x n.1 h2,But.denAll e ht ds r n.2 h3⟩
end
end
theorem bP {α:Type} (f:α->PyData) (h:∀ x,dG (f x)=true):∀ l:List α,eO (l.map f)=true
 | []=>by unfold List.map eO; rfl
 | x::r=>by rw [Qu]; unfold eO; rw [h x,bP f h r]; rfl
theorem qJ (i:Int):dG (.int i)=true:=by unfold dG; rfl
theorem bZ (l:List Int):dG (cT l)=true:=by unfold cT dG; exact bP _ qJ l
theorem wQ (n:Int) (ws:List (List Int)):dG (bY n ws)=true:=by
 unfold bY dG eO
 rw [qJ]
 unfold eO dG
 rw [bP _ bZ ws]
 unfold eO
 rfl
def dM (K:PySem.W.Frag) (H:Hp) (t a:Addr) (ns:List Int):Prop:=(∃ p q:Int,0<=p/\H t=some (.lst [.ref a,.int p,.int q]))/\SqL K H a (ns.map V.int)
theorem dM.same {K:PySem.W.Frag} {H H':Hp} {t a:Addr} {ns:List Int} (h:dM K H t a ns) (e:aF H H'):dM K H' t a ns:=by
 obtain ⟨⟨p,q,h1,h2⟩,h3⟩:=h
 exact ⟨⟨p,q,h1,e t _ h2⟩,e.seqL h3⟩
theorem dM.den {K:PySem.W.Frag} {H H':Hp} {t a:Addr} {ns:List Int} (h:dM K H t a ns) (e:But t H H') {d:PyData} {v:V} (n:dG d=true) (hd:Den K H d v):Den K H' d v:=by
 obtain ⟨⟨p,q,h1,h2⟩,h3⟩:=h
 exact e.den h2 d v n hd
theorem dM.seqT {K:PySem.W.Frag} {H H':Hp} {t a:Addr} {ns:List Int} (h:dM K H t a ns) (e:But t H H') {b:Addr} {xs:List V} (hd:SqT K H b xs):SqT K H' b xs:=by
 obtain ⟨⟨p,q,h1,h2⟩,h3⟩:=h
 exact e.seqT h2 hd
theorem dM.ne {K:PySem.W.Frag} {H:Hp} {t a:Addr} {ns:List Int} (h:dM K H t a ns) {b:Addr} (hb:H b=none):b≠t:=by
 obtain ⟨⟨p,q,h1,h2⟩,h3⟩:=h
 intro z
 rw [z,h2] at hb
 cases hb
theorem yK {ns:List Int} {xs:List V} {a:Addr} {r:List V} (h:ns.map V.int=.ref a::r):False:=by
 cases ns with
 | nil=>cases h
 | cons _ _=>rw [Qu] at h; cases h
theorem eK {K:PySem.W.Frag} {H:Hp} {t a:Addr} {ns:List Int} {p q:Int} {u:HO} (h2:H t=some (.lst [.ref a,.int p,.int q])) (h:SqL K H a (ns.map V.int)):SqL K (upd H t u) a (ns.map V.int):=by
 rcases h with (h | ⟨o,h⟩) | h
 ·have n:a≠t:=fun z=>by
   rw [z,h2] at h
   injection h with h
   injection h with h
   exact yK (xs:=[]) h.symm
  exact .inl (.inl (by rw [aK n]; exact h))
 ·have n:a≠t:=fun z=>by
   rw [z,h2] at h
   cases h
  exact .inl (.inr ⟨o,by rw [aK n]; exact h⟩)
 ·exact .inr h
section
variable {P:Program} {w:World} {K:PySem.W.Frag} {mg:Str->Option Value} {base:Heap}
theorem hX (ns:List Int):eF (.list (ns.map .int))=true:=by
 unfold eF
 induction ns with
 | nil=>unfold List.map iV; rfl
 | cons n r ih=>rw [Qu]; unfold iV; rw [ih]; unfold eF; rfl
theorem lU {α:Type} (f:α->PyData) (h:∀ x,(f x).canLay0=true):∀ l:List α,PyData.canLayAll0 (l.map f)=true
 | []=>by unfold List.map PyData.canLayAll0; rfl
 | x::r=>by rw [Qu]; unfold PyData.canLayAll0; rw [h x,lU f h r]; rfl
theorem nJ {α:Type} {k:Nat} (f:α->PyData) (h:∀ x,(f x).depth<=k):∀ l:List α,PyData.depthAll (l.map f)<=k
 | []=>by unfold List.map PyData.depthAll; exact Jm _
 | x::r=>by rw [Qu]; unfold PyData.depthAll; exact Nat.max_le.mpr ⟨h x,nJ f h r⟩
theorem qK (i:Int):(PyData.int i).canLay0=true:=by unfold PyData.canLay0; rfl
theorem sN (i:Int):(PyData.int i).depth<=0:=by unfold PyData.depth; exact Qi _
theorem uK (ns:List Int):(PyData.list (ns.map .int)).canLay0=true:=by unfold PyData.canLay0; exact lU _ qK ns
theorem uL (ns:List Int):(PyData.tuple (ns.map .int)).canLay0=true:=by unfold PyData.canLay0; exact lU _ qK ns
theorem wR (ns:List Int):(PyData.list (ns.map .int)).depth<=1:=by unfold PyData.depth; exact Yf (nJ _ sN ns)
theorem wS (ns:List Int):(PyData.tuple (ns.map .int)).depth<=1:=by unfold PyData.depth; exact Yf (nJ _ sN ns)
theorem sO {d:PyData} (h1:d.canLay0=true) (h2:d.depth<=64):SeqAt.shaped d=true:=by
 unfold SeqAt.shaped
 rw [h1,decide_eq_true h2]
 rfl
theorem kI (ns:List Int):SeqAt.shaped (.list (ns.map .int))=true:=sO (uK ns) (Qx (wR ns) (by decide))
theorem mM (ns:List Int):SeqAt.shaped (.tuple (ns.map .int))=true:=sO (uL ns) (Qx (wS ns) (by decide))
theorem mO (ns:List Int):eF (.tuple (ns.map .int))=true:=by
 have h:=hX ns
 unfold eF at h ⊢
 exact h
def aB9:Sp:=fun vs H Q _=>∃ c a:Int,vs = [.int c,.int a]/\∀ r,Q (.int r) H
theorem uM:FnScope ["cell", "at", "first", "second", "third"] ["cell", "at"] (aO aAd):=⟨rfl,rfl,rfl,by decide +kernel,rfl,by decide +kernel,by decide +kernel⟩
theorem aDn {f:Addr} {fd:FuncData} (G:Fn K mg "_law_b_stirred" aAd ["cell", "at"] f fd):FnOk P w K mg base CX0 1 f fd ["cell", "at"] aB9:=by
 refine G.fn.ok uM (fun vs H Q E h=>?_) (fun cdv A outer s H vs Q E hr h=>?_)
 ·obtain ⟨c,a,rfl,_⟩:=h
  rfl
 ·obtain ⟨c,a,rfl,k⟩:=h
  refine ⟨_,aG (bW (aW zH (pv 0) (bB tH aH aH) (bD _)) (aL (bA (pv 0))) bH)
   (aG (aX (i:=2) uM.nd rfl (Or.inl rfl) (bB jP (bB cQ (bB cQ (bB iD (bB jP (pv 0) aH) aH) (bB iD (pv 1) aH)) aH) aH))
   (aG (aX (i:=3) uM.nd rfl (Or.inl rfl) (bB jP (bB cQ (bB cQ (bB iD (pv 2) (pv 2)) (bB iD aH (pv 1))) aH) aH))
   (aG (aX (i:=4) uM.nd rfl (Or.inl rfl) (bB jP (bB cQ (bB cQ (bB iD (pv 3) (pv 3)) (bB iD aH (pv 2))) (pv 1)) aH))
   (aL (bA (bB cQ (bB iD (pv 3) aH) (pv 4))))))),?_⟩
  refine ⟨_,rfl,_,_,rfl,rfl,⟨by decide,by decide,by decide⟩,_,_,rfl,rfl,_,rfl,?_⟩
  refine cR (fun c1=>?_) (fun c1=>?_)
  ·exact ⟨_,rfl,k _⟩
  ·refine ⟨_,rfl,_,_,rfl,rfl,(show (0:Int) < _ by decide),_,_,rfl,rfl,.inr ⟨by decide,by decide⟩,_,rfl,_,_,rfl,rfl,.inr ⟨by decide,by decide⟩,_,_,rfl,rfl,_,_,rfl,rfl,_,_,rfl,rfl,(show (0:Int) < _ by decide),?_⟩
   generalize hf:((c % 2147483629*43591+a*6661+353) % 2147483587:Int)=f1
   have b1:0<=f1/\f1 < 2147483587:=by rw [<- hf]; exact ⟨Xj _ (by decide),Xc _ (by decide)⟩
   refine ⟨_,rfl,_,rfl,_,_,rfl,rfl,.inl ⟨by omega,by omega⟩,_,rfl,_,_,rfl,rfl,.inl ⟨by decide,by decide⟩,_,_,rfl,rfl,_,_,rfl,rfl,_,_,rfl,rfl,(show (0:Int) < _ by decide),?_⟩
   generalize hg:((f1*f1+727*a+89) % 2147483579:Int)=f2
   have b2:0<=f2/\f2 < 2147483579:=by rw [<- hg]; exact ⟨Xj _ (by decide),Xc _ (by decide)⟩
   refine ⟨_,rfl,_,rfl,_,_,rfl,rfl,.inl ⟨by omega,by omega⟩,_,rfl,_,_,rfl,rfl,.inl ⟨by decide,by decide⟩,_,_,rfl,rfl,_,rfl,_,_,rfl,rfl,_,_,rfl,rfl,(show (0:Int) < _ by decide),?_⟩
   exact ⟨_,rfl,_,_,rfl,rfl,.inr ⟨by decide,by decide⟩,_,rfl,_,_,rfl,rfl,k _⟩
def iA (K:PySem.W.Frag):Sp:=fun vs H Q _=>∃ (t a:Addr) (ns:List Int) (m:Int),vs = [.ref t,.int m]/\dM K H t a ns/\0 < m/\m < 1267650600228229401496703205376/\∀ r H',0<=r->r < m->But t H H'->dM K H' t a ns->Q (.int r) H'
theorem _root_.L2.Room.u64 {k:Nat} {A:Around} (r:Room k A):A.units+64 < cLine:=by have:=r.un; omega
theorem kY:FnScope ["tape", "many", "at", "cell", "found"] ["tape", "many"] (aO jB):=⟨rfl,rfl,rfl,by decide +kernel,rfl,by decide +kernel,by decide +kernel⟩
theorem aCa {f fS:Addr} {fd fdS:FuncData} (G:Fn K mg "_law_b_digit" jB ["tape", "many"] f fd) (B:Bl mg) (GS:Fn K mg "_law_b_stirred" aAd ["cell", "at"] fS fdS):FnOk P w K mg base CX0 2 f fd ["tape", "many"] (iA K):=by
 have OS:FnOk P w K mg base CX0 1 fS fdS ["cell", "at"] aB9:=aDn GS
 refine G.fn.ok kY (fun vs H Q E h=>?_) (fun cdv A outer s H vs Q E hr h=>?_)
 ·obtain ⟨t,a,ns,m,rfl,_⟩:=h
  rfl
 ·obtain ⟨t,a,ns,m,rfl,⟨⟨p,q,hp,ht⟩,hns⟩,hm1,hm2,k⟩:=h
  refine ⟨_,aG (bW (aW rQ (bO cB (pv 0) aH (fun _ _=>rfl)) (pv 1) (bD _))
    (aG (aX (i:=2) kY.nd rfl (Or.inl rfl) (bO cB (pv 0) aH (fun _ _=>rfl)))
    (aG (aX (i:=3) kY.nd rfl (Or.inl rfl) (bB cQ (bB iD aH (pv 2)) aH))
    (aG (bW (aW rQ (pv 2) (aT bC rfl B.len gD (aA (bO cB (pv 0) aH (fun _ _=>rfl)) aE)) (bD _))
      (aL (aX (i:=3) kY.nd rfl (Or.inl rfl) (bO cB (bO cB (pv 0) aH (fun _ _=>rfl)) (pv 2) (fun _ _=>rfl))))
      (aL (bW (aW (aBu hr.u64) (bO cB (pv 0) aH (fun _ _=>rfl)) (dE aE) (bD _))
       (aL (aX (i:=3) kY.nd rfl (Or.inl rfl) (bB cQ (bB jP (bO cB (bO cB (pv 0) aH (fun _ _=>rfl)) (bB jP (bB iD (pv 2) aH) (aT bC rfl B.len gD (aA (bO cB (pv 0) aH (fun _ _=>rfl)) aE))) (fun _ _=>rfl)) aH) (bB iD (pv 2) aH))))
       bH)))
    (aG (lL (bB cQ (pv 2) aH) (tF (pv 0) aH jT))
    (aL (lL (bI GS OS hr rfl (aA (pv 3) (aA (pv 2) aE))) (tF (pv 0) aH jT)))))))
    bH)
   (aG (aX (i:=4) kY.nd rfl (Or.inl rfl) (bB jP (bO cB (pv 0) aH (fun _ _=>rfl)) (pv 1)))
   (aG (lL (bB aBD (bO cB (pv 0) aH (fun _ _=>rfl)) (pv 1)) (tF (pv 0) aH jT))
   (aL (bA (pv 4))))),?_⟩
  refine ⟨_,rfl,t,_,2,.int q,rfl,rfl,SqL.of ht,rfl,_,rfl,_,_,rfl,rfl,_,rfl,?_⟩
  refine cR (fun c1=>?_) (fun c1=>?_)
  ·refine ⟨_,rfl,t,_,1,.int p,rfl,rfl,SqL.of ht,rfl,?_⟩
   refine ⟨_,rfl,_,_,rfl,rfl,.inl ⟨by decide,by decide⟩,_,_,rfl,rfl,?_⟩
   refine ⟨_,rfl,_,rfl,t,_,0,.ref a,rfl,rfl,SqL.of ht,rfl,a,_,rfl,.inl hns,_,_,rfl,rfl,_,rfl,?_⟩
   refine cR (fun c2=>?_) (fun c2=>?_)
   ·have c2':p < ((ns.map V.int).length:Int):=of_decide_eq_true c2
    rw [Qb] at c2'
    have hlt:p.toNat < ns.length:=by omega
    have hat:atI (ns.map V.int) p=some (.int (ns[p.toNat])):=by
     have h1:(ns.map V.int)[p.toNat]?=some (.int (ns[p.toNat])):=by rw [Qh,Qd hlt]; rfl
     have h2:=eZ h1
     rwa [Yv hp] at h2
    refine ⟨_,rfl,t,_,0,.ref a,rfl,rfl,SqL.of ht,rfl,_,rfl,a,_,_,_,rfl,rfl,hns,hat,?_⟩
    refine ⟨_,rfl,_,_,rfl,rfl,_,rfl,t,_,_,1,rfl,rfl,ht,rfl,?_⟩
    refine ⟨_,rfl,_,rfl,_,_,rfl,fun r=>⟨_,rfl,t,_,_,2,rfl,rfl,aC,rfl,?_⟩⟩
    refine ⟨_,rfl,t,_,2,.int r,rfl,rfl,SqL.of aC,rfl,_,rfl,_,_,rfl,rfl,hm1,?_⟩
    refine ⟨_,rfl,t,_,2,.int r,rfl,rfl,SqL.of aC,rfl,_,rfl,_,_,rfl,rfl,⟨hm1,hm2⟩,_,rfl,t,_,_,2,rfl,rfl,aC,rfl,?_⟩
    exact ⟨_,rfl,k _ _ (Xj _ (by omega)) (Xc _ hm1) ((But.refl t H).trans (But.at.trans (But.at.trans But.at))) ⟨⟨p+1,r / m,by omega,aC⟩,eK (p:=p+1) (q:=r) aC (eK (p:=p+1) (q:=q) aC (eK ht hns))⟩⟩
   ·refine ⟨_,rfl,t,_,0,.ref a,rfl,rfl,SqL.of ht,rfl,by decide,fun l hl=>?_⟩
    have ntl:t≠l:=fun z=>by rw [<- z,ht] at hl; cases hl
    have ht':upd H l (.lst []) t=some (.lst [.ref a,.int p,.int q]):=by rw [aK ntl]; exact ht
    have hns':SqL K (upd H l (.lst [])) a (ns.map V.int):=(aF.new hl).seqL hns
    have bl:But t H (upd H l (.lst [])):=But.of (aF.new hl)
    refine ⟨.list (ns.map .int),.list [],nB.mpr ⟨a,rfl,hns'⟩,gS.mpr ⟨l,[],rfl,SqL.of aC,aV.mpr rfl⟩,hX ns,rfl,kI ns,rfl,_,rfl,?_⟩
    refine cR (fun c3=>?_) (fun c3=>?_)
    ·have hpos:0 < ns.length:=by
      cases ns with
      | nil=>simp [PyData.eqv,PyData.eqvAll] at c3
      | cons _ _=>simp
     have hlt:(p*3 % (ns.length:Int)).toNat < ns.length:=by
      have:=Xj (p*3) (show (ns.length:Int)≠0 by omega)
      have:=Xc (p*3) (show (0:Int) < ns.length by omega)
      omega
     have hat:atI (ns.map V.int) (p*3 % ((ns.map V.int).length:Int))=some (.int (ns[(p*3 % (ns.length:Int)).toNat])):=by
      have h1:(ns.map V.int)[(p*3 % (ns.length:Int)).toNat]?=some (.int (ns[(p*3 % (ns.length:Int)).toNat])):=by rw [Qh,Qd hlt]; rfl
      have h2:=eZ h1
      rw [Qb]
      rwa [Yv (Xj _ (by omega))] at h2
     refine ⟨_,rfl,t,_,0,.ref a,rfl,rfl,SqL.of ht',rfl,_,rfl,_,_,rfl,rfl,.inr ⟨by decide,by decide⟩,_,rfl,t,_,0,.ref a,rfl,rfl,SqL.of ht',rfl,a,_,rfl,.inl hns',_,_,rfl,rfl,(show (0:Int) < ((ns.map V.int).length:Int) by rw [Qb]; omega),a,_,_,_,rfl,rfl,hns',hat,_,_,rfl,rfl,(show (0:Int) < _ by decide),_,rfl,_,_,rfl,rfl,.inr ⟨by decide,by decide⟩,_,_,rfl,rfl,?_⟩
     refine ⟨_,rfl,_,_,rfl,rfl,_,rfl,t,_,_,1,rfl,rfl,ht',rfl,?_⟩
     refine ⟨_,rfl,_,rfl,_,_,rfl,fun r=>⟨_,rfl,t,_,_,2,rfl,rfl,aC,rfl,?_⟩⟩
     refine ⟨_,rfl,t,_,2,.int r,rfl,rfl,SqL.of aC,rfl,_,rfl,_,_,rfl,rfl,hm1,?_⟩
     refine ⟨_,rfl,t,_,2,.int r,rfl,rfl,SqL.of aC,rfl,_,rfl,_,_,rfl,rfl,⟨hm1,hm2⟩,_,rfl,t,_,_,2,rfl,rfl,aC,rfl,?_⟩
     exact ⟨_,rfl,k _ _ (Xj _ (by omega)) (Xc _ hm1) (bl.trans (But.at.trans (But.at.trans But.at))) ⟨⟨p+1,r / m,by omega,aC⟩,eK (p:=p+1) (q:=r) aC (eK (p:=p+1) (q:=q) aC (eK ht' hns'))⟩⟩
    ·show _
     refine ⟨_,rfl,_,_,rfl,rfl,_,rfl,t,_,_,1,rfl,rfl,ht',rfl,?_⟩
     refine ⟨_,rfl,_,rfl,_,_,rfl,fun r=>⟨_,rfl,t,_,_,2,rfl,rfl,aC,rfl,?_⟩⟩
     refine ⟨_,rfl,t,_,2,.int r,rfl,rfl,SqL.of aC,rfl,_,rfl,_,_,rfl,rfl,hm1,?_⟩
     refine ⟨_,rfl,t,_,2,.int r,rfl,rfl,SqL.of aC,rfl,_,rfl,_,_,rfl,rfl,⟨hm1,hm2⟩,_,rfl,t,_,_,2,rfl,rfl,aC,rfl,?_⟩
     exact ⟨_,rfl,k _ _ (Xj _ (by omega)) (Xc _ hm1) (bl.trans (But.at.trans (But.at.trans But.at))) ⟨⟨p+1,r / m,by omega,aC⟩,eK (p:=p+1) (q:=r) aC (eK (p:=p+1) (q:=q) aC (eK ht' hns'))⟩⟩
  ·show _
   refine ⟨_,rfl,t,_,2,.int q,rfl,rfl,SqL.of ht,rfl,_,rfl,_,_,rfl,rfl,hm1,?_⟩
   refine ⟨_,rfl,t,_,2,.int q,rfl,rfl,SqL.of ht,rfl,_,rfl,_,_,rfl,rfl,⟨hm1,hm2⟩,_,rfl,t,_,_,2,rfl,rfl,ht,rfl,?_⟩
   exact ⟨_,rfl,k _ _ (Xj _ (by omega)) (Xc _ hm1) (But.at) ⟨⟨p,q / m,by omega,aC⟩,eK ht hns⟩⟩
theorem wT (n:Int):∀ (l:List Int) (last:Int),(∀ x∈l,last < x)->l.Pairwise (· < ·)->(∀ x∈l,x < n)->cX n last (l.map .int)=true
 | [],_,_,_,_=>rfl
 | x::r,last,h1,h2,h3=>by
  rw [Qu,gF]
  have h2':=Xb.mp h2
  rw [decide_eq_true (h1 x (Qo ..)),decide_eq_true (h3 x (Qo ..)),wT n r x h2'.1 h2'.2 (fun y hy=>h3 y (Qm _ hy))]
  rfl
theorem kZ {n:Int} {l:List Int} (h0:l≠[]) (h1:∀ x∈l,0<=x/\x < n) (h2:l.Pairwise (· < ·)):bS n (cT l)=true:=by
 have e:bS n (cT l)=(!(l.map PyData.int).isEmpty && cX n (-1) (l.map .int)):=rfl
 rw [e,wT n l (-1) (fun x hx=>by have:=(h1 x hx).1; omega) h2 (fun x hx=>(h1 x hx).2)]
 cases l with
 | nil=>exact absurd rfl h0
 | cons _ _=>rfl
theorem nZ (n:Int):∀ (l:List Int) (last:Int),cX n last (l.map .int)=true->l.Pairwise (· < ·)/\∀ x∈l,last < x/\x < n
 | [],_,_=>⟨.nil,fun _ h=>by cases h⟩
 | x::r,last,h=>by
  rw [Qu,gF,Qv,Qv] at h
  obtain ⟨⟨h1,h2⟩,h3⟩:=h
  have h1:=of_decide_eq_true h1
  have h2:=of_decide_eq_true h2
  obtain ⟨i1,i2⟩:=nZ n r x h3
  refine ⟨Xb.mpr ⟨fun y hy=>(i2 y hy).1,i1⟩,fun y hy=>?_⟩
  rcases Qk.mp hy with rfl | hy
  ·exact ⟨h1,h2⟩
  ·exact ⟨by have:=(i2 y hy).1; omega,(i2 y hy).2⟩
theorem eT {n:Int} {l:List Int} (h:bS n (cT l)=true):l≠[]/\(∀ x∈l,0<=x/\x < n)/\l.Pairwise (· < ·):=by
 have e:(!(l.map PyData.int).isEmpty && cX n (-1) (l.map .int))=true:=h
 rw [Qv] at e
 obtain ⟨h1,h2⟩:=nZ n l (-1) e.2
 refine ⟨fun z=>by rw [z] at e; simp at e,fun x hx=>⟨by have:=(h2 x hx).1; omega,(h2 x hx).2⟩,h1⟩
theorem qL {n:Int}:∀ (l:List Int) (lo:Int),lo<=n->(∀ x∈l,lo<=x/\x < n)->l.Pairwise (· < ·)->(l.length:Int)<=n - lo
 | [],lo,h,_,_=>by simp; omega
 | x::r,lo,h,h1,h2=>by
  have h2':=Xb.mp h2
  have hx:=h1 x (Qo ..)
  have:=qL r (x+1) (by omega) (fun y hy=>⟨by have:=h2'.1 y hy; omega,(h1 y (Qm _ hy)).2⟩) h2'.2
  rw [Jk]
  omega
theorem jF {n:Int} {l:List Int} (hn:0<=n) (h1:∀ x∈l,0<=x/\x < n) (h2:l.Pairwise (· < ·)):(l.length:Int)<=n:=by
 have:=qL l 0 hn h1 h2
 omega
theorem aCb {n:Nat} {x:Int}:x∈cV n↔0<=x/\x < n:=by
 unfold cV
 rw [Jl]
 constructor
 ·rintro ⟨i,hi,rfl⟩
  have:=Xf.mp hi
  show 0<=(i:Int)/\(i:Int) < n
  omega
 ·rintro ⟨h1,h2⟩
  exact ⟨x.toNat,Xf.mpr (by omega),by show ((x.toNat:Nat):Int)=x; omega⟩
theorem yL (n:Nat):(cV n).Pairwise (· < ·):=by
 unfold cV
 rw [List.pairwise_map]
 refine Yj.imp fun h=>?_
 show ((_:Nat):Int) < ((_:Nat):Int)
 omega
theorem aAX {a b:Nat}:(lN a b).Pairwise (· < ·)/\lN a b≠[]/\∀ x∈lN a b,x=(a:Int)∨x=(b:Int):=by
 unfold lN
 split
 ·exact ⟨by simp,by simp,fun x hx=>by simp at hx; exact .inl hx⟩
 ·split
  ·refine ⟨?_,by simp,fun x hx=>by simpa using hx⟩
   rw [Xb]
   exact ⟨fun y hy=>by simp at hy; omega,by simp⟩
  ·refine ⟨?_,by simp,fun x hx=>by simp at hx; exact hx.symm⟩
   rw [Xb]
   exact ⟨fun y hy=>by simp at hy; omega,by simp⟩
theorem aDo {X:Cx} (hK:X.K=K) (hu:X.A.units+64 < cLine):OpR X (compareOp .Eq) (fun x y H Q=>∃ d e,Den K H d x/\Den K H e y/\eF d=true/\eF e=true/\SeqAt.shaped d=true/\SeqAt.shaped e=true/\Q (.bl (PyData.eqv d e)) H):=by subst hK; exact aEj hu
theorem kJ:∀ (a b:List Int),PyData.eqvAll (a.map .int) (b.map .int)=decide (a=b)
 | [],[]=>by simp [PyData.eqvAll]
 | [],_::_=>by simp [PyData.eqvAll]
 | _::_,[]=>by simp [PyData.eqvAll]
 | x::r,y::s=>by
  rw [Qu,Qu,PyData.eqvAll,kJ r s,PyData.eqv]
  by_cases h:x=y
  ·by_cases h2:r=s
   ·simp [h,h2]
   ·simp [h,h2]
  ·simp [h]
theorem aAY (a b:List Int):PyData.eqv (.list (a.map .int)) (.list (b.map .int))=decide (a=b):=by rw [PyData.eqv,kJ]
theorem aAZ (a b:List Int):PyData.eqv (.tuple (a.map .int)) (.tuple (b.map .int))=decide (a=b):=by rw [PyData.eqv,kJ]
theorem sz1 (x:V) : [x].length<=sizeLine:=by rw [sizeLine_eq]; simp
theorem sz2 (x y:V) : [x,y].length<=sizeLine:=by rw [sizeLine_eq]; simp
theorem eM {n:Nat} (h:n<=1000):n<=sizeLine:=by rw [sizeLine_eq]; omega
def yM (K:PySem.W.Frag):Sp:=fun vs H Q _=>∃ (t a:Addr) (ns:List Int) (n kd:Int),vs = [.ref t,.int n,.int kd]/\dM K H t a ns/\1<=n/\n<=6/\∀ l p H',bS n (cT l)=true->But t H H'->dM K H' t a ns->SqT K H' p (l.map V.int)->Q (.ref p) H'
theorem qM:FnScope ["tape", "hands", "kind", "first", "often", "some"] ["tape", "hands", "kind"] (aO sL):=⟨rfl,rfl,rfl,by decide +kernel,rfl,by decide +kernel,by decide +kernel⟩
theorem aDp {f fD:Addr} {fd fdD:FuncData} (G:Fn K mg "_law_b_work" sL ["tape", "hands", "kind"] f fd) (B:Bl mg) (GD:Fn K mg "_law_b_digit" jB ["tape", "many"] fD fdD) (OD:FnOk P w K mg base CX0 2 fD fdD ["tape", "many"] (iA K)):FnOk P w K mg base CX0 3 f fd ["tape", "hands", "kind"] (yM K):=by
 refine G.fn.ok qM (fun vs H Q E h=>?_) (fun cdv A outer s H vs Q E hr h=>?_)
 ·obtain ⟨t,a,ns,n,kd,rfl,_⟩:=h
  rfl
 ·obtain ⟨t,a,ns,n,kd,rfl,hT,hn1,hn6,k⟩:=h
  refine ⟨_,aG (aX (i:=3) qM.nd rfl (Or.inr rfl) (bI GD OD hr rfl (aA (pv 0) (aA (pv 1) aE))))
   (aG (bW (aW jQ (pv 2) aH (bD _)) (aL (bA (eY (aA (pv 3) aE)))) bH)
   (aG (bW (aW jQ (pv 2) aH (bD _)) (aL (bA (cA cI rfl B.tuple cP (aA (aT (oF rfl) rfl B.sorted aB5 (aA (cA (aAJ rfl) rfl B.set aFw (aA (dE (aA (pv 3) (aA (bB jP (bB cQ (pv 3) aH) (pv 1)) aE))) aE)) aE)) aE)))) bH)
   (aG (bW (aW jQ (pv 2) aH (bD _)) (aL (bA (cA (kA rfl) rfl B.tuple cP (aA (cA nV rfl B.range aAc (aA (pv 1) aE)) aE)))) bH)
   (aG (aX (i:=4) qM.nd rfl (Or.inr rfl) (bB cQ aH (bI GD OD hr rfl (aA (pv 0) (aA aH aE)))))
   (aG (aX (i:=5) qM.nd rfl (Or.inr rfl)
    (dX (own:=["hand"]) (fr:=[3,4,0]) (frn:=["first", "often", "tape"]) (bT (aO sL) ["tape", "hands", "kind", "first", "often", "some"] rfl rfl (by decide +kernel)) rfl (eV rfl B.range (aA (pv 1) aE))
     (fun _ _ _ _=>aS (i:=0) (show (["hand", "first", "often", "tape"]:List Str).Nodup by decide +kernel) rfl (Or.inl rfl))
     (fun _ _ _ _=>pD (PW.pt (iI (aW jQ (pv 0) (pv 1) (bD _)) (gE (aW jQ (bI GD OD hr rfl (aA (pv 3) (aA (pv 2) aE))) aH (bD _))))))
     (fun _ _ _ _=>pv 0)))
   (aG (bW (PW.pt (mU (aW jQ (pv 2) aH (bD _)) (kQ (aW rQ (aT bC rfl B.len gD (aA (pv 5) aE)) (pv 1) (bD _)))))
    (aL (aX (i:=5) qM.nd rfl (Or.inr rfl)
     (dX (own:=["hand"]) (fr:=[5]) (frn:=["some"]) (bT (aO sL) ["tape", "hands", "kind", "first", "often", "some"] rfl rfl (by decide +kernel)) rfl (kR (pv 5))
      (fun _ _ _ _=>aS (i:=0) (show (["hand", "some"]:List Str).Nodup by decide +kernel) rfl (Or.inl rfl))
      (fun _ _ _ _=>pD (PW.pt (iI (aW zG (pv 0) aH (bD _)) (gE (aW (aDo (K:=K) rfl hr.u64) (pv 1) (dE (aA aH aE)) (bD _))))))
      (fun _ _ _ _=>pv 0)))) bH)
   (aL (bA (cA cI rfl B.tuple cP (aA (pv 5) aE)))))))))),?_⟩
  refine ⟨_,rfl,_,rfl,t,a,ns,n,rfl,hT,by omega,by omega,fun first H1 hf0 hf1 b1 T1=>?_⟩
  obtain ⟨fn,rfl⟩:∃ fn:Nat,first=fn:=⟨first.toNat,by omega⟩
  obtain ⟨m,rfl⟩:∃ m:Nat,n=m:=⟨n.toNat,by omega⟩
  refine ⟨_,rfl,rfl,_,rfl,?_⟩
  refine cR (fun c1=>?_) (fun c1=>?_)
  ·refine ⟨_,rfl,sz1 _,fun p hp=>?_⟩
   refine k [(fn:Int)] p _ (kZ (by simp) (fun x hx=>?_) (by simp)) (b1.trans (But.of (aF.new hp))) (T1.same (aF.new hp)) (SqT.of aC)
   rw [Qr] at hx
   omega
  refine ⟨_,rfl,rfl,_,rfl,?_⟩
  refine cR (fun c2=>?_) (fun c2=>?_)
  ·have hmod0:0<=((fn:Int)+1) % (m:Int):=Xj _ (by omega)
   have hmod1:((fn:Int)+1) % (m:Int) < m:=Xc _ (by omega)
   have hg:∃ g:Nat,((fn:Int)+1) % (m:Int)=g:=⟨(((fn:Int)+1) % (m:Int)).toNat,by omega⟩
   obtain ⟨g,hg⟩:=hg
   refine ⟨_,rfl,_,rfl,_,_,rfl,rfl,_,rfl,_,_,rfl,rfl,(show (0:Int) < (m:Int) by omega),sz2 _ _,fun l hl=>?_⟩
   rw [hg] at hmod0 hmod1
   refine ⟨l,fn,g,rfl,SqL.of (by rw [aC]; show some (HO.lst [V.int (fn:Int),V.int (((fn:Int)+1) % (m:Int))])=_; rw [hg]),by omega,by omega,fun p hp=>⟨p,fn,g,rfl,aC,by omega,by omega,fun q hq=>⟨q,_,rfl,.inl ⟨SqL.of aC,fun r hr2=>?_⟩⟩⟩⟩
   have sm:=((aF.new (o:=.lst [.int (fn:Int),.int (((fn:Int)+1) % (m:Int))]) hl).trans ((aF.new hp).trans ((aF.new hq).trans (aF.new (o:=.tup ((lN fn g).map V.int)) hr2))))
   obtain ⟨w1,w2,w3⟩:=aAX (a:=fn) (b:=g)
   refine k (lN fn g) r _ (kZ w2 (fun x hx=>?_) w1) (b1.trans (But.of sm)) (T1.same sm) (SqT.of aC)
   rcases w3 x hx with e | e <;> omega
  refine ⟨_,rfl,rfl,_,rfl,?_⟩
  refine cR (fun c3=>?_) (fun c3=>?_)
  ·refine ⟨_,rfl,(m:Int),rfl,fun p hp=>⟨p,m,rfl,aC,by omega,fun q H' s' hq=>?_⟩⟩
   have sm:=(aF.new hp).trans s'
   refine k (cV m) q H' (kZ (fun z=>?_) (fun x hx=>aCb.mp hx) (yL m)) (b1.trans (But.of sm)) (T1.same sm) hq
   have:=kH m
   rw [z] at this
   simp at this
   omega
  refine ⟨_,rfl,t,a,ns,3,rfl,T1,by decide,by decide,fun r H2 hr0 hr1 b2 T2=>⟨_,_,rfl,rfl,?_⟩⟩
  have b02:=b1.trans b2
  refine ⟨_,rfl,(m:Int),rfl,by omega,by omega,iW (lo:=0) (n:=((m:Int)).toNat) (fun σ=>∃ v,σ = [v,some (.int (fn:Int)),some (.int (2+r)),some (.ref t)])
   (fun i ys H3=>∃ l:List Int,ys=l.map V.int/\l.Pairwise (· < ·)/\(∀ x∈l,0<=x/\x < i)/\(fn < i->l≠[])/\But t H H3/\dM K H3 t a ns) (eM (by omega)) ⟨none,rfl⟩
   ⟨[],rfl,.nil,fun _ h=>(Qn h).elim,fun h=>(Zv _ h).elim,b02,T2⟩ ?_ ?_ ?_⟩
  ·rintro i ys H3 ⟨l,rfl,h1,h2,_⟩
   rw [Qb]
   have:=jF (n:=(i:Int)) (by omega) h2 h1
   omega
  ·rintro i ys σ H3 hi ⟨v,rfl⟩ ⟨l,rfl,h1,h2,h3,b3,T3⟩ hz
   have hnext:(l++[(i:Int)]).Pairwise (· < ·)/\∀ x∈l++[(i:Int)],0<=x/\x < ((i+1:Nat):Int):=by
    refine ⟨List.pairwise_append.mpr ⟨h1,by simp,fun x hx y hy=>?_⟩,fun x hx=>?_⟩
    ·rw [Qr] at hy
     have:=(h2 x hx).2
     omega
    ·rcases Jf.mp hx with hx | hx
     ·have:=h2 x hx
      omega
     ·rw [Qr] at hx
      omega
   refine ⟨_,rfl,_,rfl,rfl,_,rfl,?_⟩
   refine cR (fun c4=>?_) (fun c4=>?_)
   ·refine eD ?_
    refine ⟨_,rfl,hz,⟨_,rfl⟩,l++[(i:Int)],by simp,hnext.1,hnext.2,fun _=>by simp,b3,T3⟩
   ·have c4':¬ (fn:Int)=i:=fun z=>c4 (by simp [z])
    refine ⟨_,rfl,_,rfl,t,a,ns,2+r,rfl,T3,by omega,by omega,fun r4 H4 hr40 hr41 b4 T4=>⟨rfl,_,rfl,?_⟩⟩
    refine cR (fun c5=>?_) (fun c5=>?_)
    ·refine ⟨_,rfl,hz,⟨_,rfl⟩,l++[(i:Int)],by simp,hnext.1,hnext.2,fun _=>by simp,b3.trans b4,T4⟩
    ·refine ⟨⟨_,rfl⟩,l,rfl,h1,fun x hx=>?_,fun h=>h3 (by omega),b3.trans b4,T4⟩
     have:=h2 x hx
     omega
  ·rintro ys H3 ⟨l,rfl,h1,h2,h3,b3,T3⟩ p hp
   have hl0:l≠[]:=h3 (by omega)
   have h2':∀ x∈l,0<=x/\x < (m:Int):=fun x hx=>by have:=h2 x hx; omega
   have hshort:=jF (by omega) h2' h1
   have sp:=aF.new (o:=.lst (l.map V.int)) hp
   have T3':=T3.same sp
   have b3':=b3.trans (But.of sp)
   have ntp:p≠t:=T3.ne hp
   have hpl:upd H3 p (.lst (l.map V.int)) p=some (.lst (l.map V.int)):=aC
   generalize hH5:upd H3 p (.lst (l.map V.int))=H5 at T3' b3' hpl ⊢
   refine ⟨_,rfl,rfl,_,rfl,?_⟩
   refine cR (fun c4=>?_) (fun c4=>?_)
   ·refine ⟨_,rfl,p,_,rfl,.inl (SqL.of hpl),_,rfl,_,_,rfl,rfl,_,rfl,?_⟩
    refine cR (fun c5=>?_) (fun c5=>?_)
    ·refine ⟨_,rfl,p,rfl,⟨_,SqL.of hpl⟩,sE (K:=K) (a:=p) (xs:=l.map V.int) (fun σ=>∃ v,σ = [v,some (.ref p)]) (fun i ys H6=>aF H5 H6/\ys=((l.take i).filter fun h=>decide (0 < h) || decide (l = [0])).map V.int) (eM (by rw [Qb]; omega)) ⟨none,rfl⟩ ⟨aF.refl _,rfl⟩ ?_ ?_ ?_ ?_⟩
     ·rintro i ys H6 ⟨_,rfl⟩
      rw [Qb]
      exact Qx (Zb _ _) (by rw [Jd]; omega)
     ·rintro i ys H6 ⟨s6,_⟩
      exact s6.seqL (SqL.of hpl)
     ·rintro i ys σ x H6 hx ⟨v,rfl⟩ ⟨s6,rfl⟩ hz
      rw [Qh] at hx
      obtain ⟨h,hh,rfl⟩:∃ h,l[i]?=some h/\V.int h=x:=by
       cases q:l[i]? with
       | none=>rw [q] at hx; cases hx
       | some h=>rw [q] at hx; exact ⟨h,rfl,Option.some.inj hx⟩
      have etake:l.take (i+1)=l.take i++[h]:=by rw [Jz,hh]; rfl
      refine ⟨_,rfl,_,_,rfl,rfl,_,rfl,?_⟩
      refine cR (fun c6=>?_) (fun c6=>?_)
      ·refine eD ?_
       refine ⟨_,rfl,hz,⟨_,rfl⟩,s6,?_⟩
       rw [etake,Jr,Qy]
       simp [of_decide_eq_true c6]
      ·refine ⟨_,rfl,sz1 _,fun q hq=>?_⟩
       have s7:=s6.trans (aF.new (o:=.lst [V.int 0]) hq)
       refine ⟨.list (l.map .int),.list ([0].map .int),nB.mpr ⟨p,rfl,s7.seqL (SqL.of hpl)⟩,nB.mpr ⟨q,rfl,SqL.of aC⟩,hX _,hX _,kI _,kI _,_,rfl,?_⟩
       rw [aAY]
       refine cR (fun c7=>?_) (fun c7=>?_)
       ·refine ⟨_,rfl,hz,⟨_,rfl⟩,s7,?_⟩
        rw [etake,Jr,Qy]
        simp [of_decide_eq_true c7]
       ·refine ⟨⟨_,rfl⟩,s7,?_⟩
        rw [etake,Jr,Qy]
        have c6':¬ 0 < h:=fun z=>c6 (decide_eq_true z)
        have c7':¬ l = [0]:=fun z=>c7 (decide_eq_true z)
        simp [c6',c7']
     ·rintro ys H6 ⟨s6,rfl⟩ q hq
      rw [Qb,Xk]
      have hsub:(l.filter fun h=>decide (0 < h) || decide (l = [0])).Sublist l:=List.filter_sublist
      refine ⟨_,rfl,q,_,rfl,.inl ⟨SqL.of aC,fun r5 hr5=>?_⟩⟩
      have sm:=s6.trans ((aF.new (o:=.lst ((l.filter fun h=>decide (0 < h) || decide (l = [0])).map V.int)) hq).trans (aF.new (o:=.tup ((l.filter fun h=>decide (0 < h) || decide (l = [0])).map V.int)) hr5))
      refine k (l.filter fun h=>decide (0 < h) || decide (l = [0])) r5 _ (kZ ?_ (fun x hx=>h2' x (hsub.mem hx)) (h1.sublist hsub)) (b3'.trans (But.of sm)) (T3'.same sm) (SqT.of aC)
      intro z
      rw [Yk] at z
      by_cases hl:l = [0]
      ·have:=z 0 (by rw [hl]; simp)
       simp [hl] at this
      ·apply hl
       have hall:∀ x∈l,x=0:=fun x hx=>by
        have hz:=z x hx
        have:=(h2' x hx).1
        simp [hl] at hz
        omega
       match l,hl0,h1,hall with
       | [x],_,_,ha=>rw [ha x (Qr.mpr rfl)]
       | x::y::r,_,hp,ha =>
        exfalso
        have h3:=(Xb.mp hp).1 y (Qo ..)
        rw [ha x (Qo ..),ha y (Qm _ (Qo ..))] at h3
        omega
    ·refine ⟨_,rfl,p,_,rfl,.inl ⟨SqL.of hpl,fun q hq=>?_⟩⟩
     exact k l q _ (kZ hl0 h2' h1) (b3'.trans (But.of (aF.new hq))) (T3'.same (aF.new hq)) (SqT.of aC)
   ·refine eQ ?_
    refine ⟨_,rfl,p,_,rfl,.inl ⟨SqL.of hpl,fun q hq=>?_⟩⟩
    exact k l q _ (kZ hl0 h2' h1) (b3'.trans (But.of (aF.new hq))) (T3'.same (aF.new hq)) (SqT.of aC)
def Far (K:PySem.W.Frag) (a f:Addr) (ns:List Int):Prop:=a≠f∨∀ H,SqL K H a (ns.map V.int)
theorem yN {K:PySem.W.Frag} {H:Hp} {a f:Addr} {ns:List Int} (h:SqL K H a (ns.map V.int)) (hf:H f=none):Far K a f ns:=by
 rcases h with (h | ⟨o,h⟩) | h
 ·exact .inl fun z=>by rw [z,hf] at h; cases h
 ·exact .inl fun z=>by rw [z,hf] at h; cases h
 ·exact .inr fun _=>.inr h
theorem dM.wr {K:PySem.W.Frag} {H H':Hp} {t a f:Addr} {ns:List Int} (T:dM K H t a ns) (b:But f H H') (n:t≠f) (F:Far K a f ns):dM K H' t a ns:=by
 obtain ⟨⟨p,q,h1,h2⟩,h3⟩:=T
 refine ⟨⟨p,q,h1,b t _ n h2⟩,?_⟩
 rcases F with F | F
 ·exact b.seqL F h3
 ·exact F H'
theorem yO {h:Int} {l:List Int}:uH (.int h) l=true↔h∈l:=by
 show (l.any (·==h))=true↔_
 rw [Zg]
 constructor
 ·rintro ⟨x,hx,e⟩
  have:x=h:=by simpa using e
  exact this ▸ hx
 ·exact fun hx=>⟨h,hx,by simp⟩
theorem yP {ws:List (List Int)} {hs:List Int} (h:aDR ws (aB7 hs)=true):hs.length=ws.length/\∀ (j:Nat) (h:Int) (l:List Int),hs[j]?=some h->ws[j]?=some l->h∈l:=by
 have h':(decide ((hs.map PyData.int).length=ws.length) && ((hs.map PyData.int).zip ws).all fun p=>uH p.1 p.2)=true:=h
 rw [Qb,Qv,Ja] at h'
 refine ⟨of_decide_eq_true h'.1,fun j h l hj hl=>?_⟩
 refine yO.mp (h'.2 (.int h,l) (Qj (i:=j) ?_))
 rw [Xp]
 exact ⟨by rw [Qh,hj]; rfl,hl⟩
theorem aDq {n:Int} {ws:List (List Int)} (h1:1<=n) (h2:n<=6) (h3:ws.length<=12) (h4:∀ l∈ws,bS n (cT l)=true):bN (bY n ws)=true:=by
 show (decide (1<=n) && decide (n<=6) && decide ((ws.map cT).length<=12) && (ws.map cT).all (bS n))=true
 rw [decide_eq_true h1,decide_eq_true h2,Qb,decide_eq_true h3,Xg,Xg,Xg,Ja]
 intro d hd
 obtain ⟨l,hl,rfl⟩:=Jl.mp hd
 exact h4 l hl
theorem sP {H:Hp} {n:Int} {ws:List (List Int)} {a b:Addr} {ys:List V} (h1:SqT K H a [.int n,.ref b]) (h2:SqT K H b ys) (h3:aU K H (ws.map cT) ys):Den K H (bY n ws) (.ref a) :=
 bE.mpr ⟨a,_,rfl,h1,aP.mpr ⟨_,_,rfl,bQ.mpr rfl,aP.mpr ⟨_,_,rfl,bE.mpr ⟨b,ys,rfl,h2,h3⟩,aV.mpr rfl⟩⟩⟩
def aCc (K:PySem.W.Frag):Sp:=fun vs H Q _=>∃ (t a:Addr) (ns:List Int),vs = [.ref t,.int 6,.int 8]/\dM K H t a ns/\∀ n ws p H',bN (bY n ws)=true->But t H H'->dM K H' t a ns->Den K H' (bY n ws) (.ref p)->Q (.ref p) H'
theorem lV:FnScope ["tape", "hands", "works", "many", "kind", "found", "k", "sort"] ["tape", "hands", "works"] (aO aAe):=⟨rfl,rfl,rfl,by decide +kernel,rfl,by decide +kernel,by decide +kernel⟩
theorem aDr {f fD fK:Addr} {fd fdD fdK:FuncData} (G:Fn K mg "_law_b_book" aAe ["tape", "hands", "works"] f fd) (B:Bl mg) (GD:Fn K mg "_law_b_digit" jB ["tape", "many"] fD fdD) (OD:FnOk P w K mg base CX0 2 fD fdD ["tape", "many"] (iA K))
  (GK:Fn K mg "_law_b_work" sL ["tape", "hands", "kind"] fK fdK) (OK:FnOk P w K mg base CX0 3 fK fdK ["tape", "hands", "kind"] (yM K)):FnOk P w K mg base CX0 4 f fd ["tape", "hands", "works"] (aCc K):=by
 refine G.fn.ok lV (fun vs H Q E h=>?_) (fun cdv A outer s H vs Q E hr h=>?_)
 ·obtain ⟨t,a,ns,rfl,_⟩:=h
  rfl
 ·obtain ⟨t,a,ns,rfl,hT,k⟩:=h
  have hr2:Room 2 _:=hr.mono (by decide)
  refine ⟨_,aG (aX (i:=3) lV.nd rfl (Or.inl rfl) (bB cQ aH (bI GD OD hr2 rfl (aA (pv 0) (aA (pv 1) aE)))))
   (aG (aX (i:=4) lV.nd rfl (Or.inl rfl) (bI GD OD hr2 rfl (aA (pv 0) (aA aH aE))))
   (aG (aX (i:=5) lV.nd rfl (Or.inl rfl) (dE aE))
   (aG (eP PassesOwn.never rfl (eV rfl B.range (aA (bI GD OD hr2 rfl (aA (pv 0) (aA (bB cQ (pv 2) aH) aE))) aE)) (aS (i:=6) lV.nd rfl (Or.inl rfl))
    (aG (aX (i:=7) lV.nd rfl (Or.inl rfl) (pv 4))
    (aG (bW (aW zG (pv 4) aH (bD _)) (aL (aX (i:=7) lV.nd rfl (Or.inl rfl) (bI GD OD hr2 rfl (aA (pv 0) (aA aH aE))))) bH)
    (aL (bV (nU PySem.F.plainAttrs_list PySem.F.slot_list_append PySem.F.type_list_append gM (pv 5) (aA (bI GK OK hr rfl (aA (pv 0) (aA (pv 3) (aA (pv 7) aE)))) aE)))))))
   (aL (bA (eY (aA (pv 3) (aA (cA cI rfl B.tuple cP (aA (pv 5) aE)) aE)))))))),?_⟩
  refine ⟨_,rfl,_,rfl,t,a,ns,6,rfl,hT,by decide,by decide,fun r H1 hr0 hr1 b1 T1=>⟨_,_,rfl,rfl,?_⟩⟩
  refine ⟨_,rfl,t,a,ns,8,rfl,T1,by decide,by decide,fun kd H2 hk0 hk1 b2 T2=>?_⟩
  refine ⟨eM (Jm _),fun fl hfl=>?_⟩
  have ntf:t≠fl:=fun z=>T2.ne hfl z.symm
  have F:Far K a fl ns:=yN T2.2 hfl
  have s3:=aF.new (o:=.lst []) hfl
  have hfl0:H fl=none:=(b1.trans b2).free hfl (Ne.symm ntf)
  have T3:=T2.same s3
  have b03:=b1.trans (b2.trans (But.of s3))
  have hfl3:upd H2 fl (.lst []) fl=some (.lst []):=aC
  generalize hH3:upd H2 fl (.lst [])=H3 at T3 b03 hfl3 ⊢
  refine ⟨_,rfl,_,rfl,_,_,rfl,rfl,t,a,ns,9,rfl,T3,by decide,by decide,fun m H4 hm0 hm1 b4 T4=>?_⟩
  refine ⟨m,rfl,by omega,by omega,iJ (lo:=0) (n:=m.toNat) (fun i σ H5=>∃ (ws:List (List Int)) (xs:List V) (v v2:Option V),σ = [some (.ref t),some (.int 6),some (.int 8),some (.int (1+r)),some (.int kd),some (.ref fl),v,v2]/\ws.length=i /\
   (∀ l∈ws,bS (1+r) (cT l)=true)/\H5 fl=some (.lst xs)/\aU K H5 (ws.map cT) xs/\But t H H5/\dM K H5 t a ns)
   ⟨[],[],none,none,rfl,rfl,fun _ h=>(Qn h).elim,b4 fl _ (Ne.symm ntf) hfl3,aV.mpr rfl,b03.trans b4,T4⟩ ?_ ?_⟩
  ·rintro i σ H5 hi ⟨ws,xs,v,v2,rfl,hl,hw,hx,hd,b5,T5⟩
   have hxl:xs.length=i:=by rw [aN hd,Qb,hl]
   refine ⟨_,rfl,?_⟩
   refine ⟨_,rfl,_,_,rfl,rfl,_,rfl,?_⟩
   refine cR (fun c1=>?_) (fun c1=>?_)
   ·refine ⟨_,rfl,t,a,ns,5,rfl,T5,by decide,by decide,fun r2 H6 hr20 hr21 b6 T6=>?_⟩
    obtain ⟨⟨p5,q5,h5,ht5⟩,hs5⟩:=id T5
    have hx6:H6 fl=some (.lst xs):=b6 fl _ (Ne.symm ntf) hx
    have hd6:=b6.denAll ht5 _ _ (bP _ bZ ws) hd
    refine ⟨_,rfl,.inl ⟨rfl,_,SqL.of hx6⟩,_,rfl,_,rfl,_,rfl,t,a,ns,1+r,r2,rfl,T6,by omega,by omega,fun l p H7 hwk b7 T7 hp7=>?_⟩
    obtain ⟨⟨p6,q6,h6,ht6⟩,hs6⟩:=id T6
    have hx7:H7 fl=some (.lst xs):=b7 fl _ (Ne.symm ntf) hx6
    have hd7:=b7.denAll ht6 _ _ (bP _ bZ ws) hd6
    refine ⟨fl,xs,.ref p,rfl,rfl,hx7,by rw [sizeLine_eq]; omega,?_⟩
    have b8:But fl H7 (upd H7 fl (.lst (xs++[.ref p]))):=But.at
    refine ⟨ws++[l],xs++[.ref p],_,_,rfl,by rw [Qs,hl]; rfl,fun l2 hl2=>?_,aC,?_,(fun b o nb hb=>by rw [aK (fun z=>by rw [z,hfl0] at hb; cases hb)]; exact ((b5.trans b6).trans b7) b o nb hb),T7.wr b8 ntf F⟩
    ·rcases Jf.mp hl2 with h | h
     ·exact hw l2 h
     ·rw [Qr.mp h]; exact hwk
    ·rw [Qy]
     refine aY (b8.denAll hx7 _ _ (bP _ bZ ws) hd7) (aP.mpr ⟨_,_,rfl,?_,aV.mpr rfl⟩)
     exact cM.mpr ⟨p,rfl,b8.seqT hx7 hp7⟩
   ·show _
    obtain ⟨⟨p5,q5,h5,ht5⟩,hs5⟩:=id T5
    have hx6:H5 fl=some (.lst xs):=(But.refl t H5) fl _ (Ne.symm ntf) hx
    have hd6:=(But.refl t H5).denAll ht5 _ _ (bP _ bZ ws) hd
    refine ⟨_,rfl,.inl ⟨rfl,_,SqL.of hx6⟩,_,rfl,_,rfl,_,rfl,t,a,ns,1+r,kd,rfl,T5,by omega,by omega,fun l p H7 hwk b7 T7 hp7=>?_⟩
    obtain ⟨⟨p6,q6,h6,ht6⟩,hs6⟩:=id T5
    have hx7:H7 fl=some (.lst xs):=b7 fl _ (Ne.symm ntf) hx6
    have hd7:=b7.denAll ht6 _ _ (bP _ bZ ws) hd6
    refine ⟨fl,xs,.ref p,rfl,rfl,hx7,by rw [sizeLine_eq]; omega,?_⟩
    have b8:But fl H7 (upd H7 fl (.lst (xs++[.ref p]))):=But.at
    refine ⟨ws++[l],xs++[.ref p],_,_,rfl,by rw [Qs,hl]; rfl,fun l2 hl2=>?_,aC,?_,(fun b o nb hb=>by rw [aK (fun z=>by rw [z,hfl0] at hb; cases hb)]; exact ((b5.trans (But.refl t H5)).trans b7) b o nb hb),T7.wr b8 ntf F⟩
    ·rcases Jf.mp hl2 with h | h
     ·exact hw l2 h
     ·rw [Qr.mp h]; exact hwk
    ·rw [Qy]
     refine aY (b8.denAll hx7 _ _ (bP _ bZ ws) hd7) (aP.mpr ⟨_,_,rfl,?_,aV.mpr rfl⟩)
     exact cM.mpr ⟨p,rfl,b8.seqT hx7 hp7⟩
  ·rintro σ H5 ⟨ws,xs,v,v2,rfl,hl,hw,hx,hd,b5,T5⟩
   refine ⟨_,rfl,_,rfl,fl,_,rfl,.inl ⟨SqL.of hx,fun q hq=>⟨sz2 _ _,fun p hp=>?_⟩⟩⟩
   have sm:=(aF.new (o:=.tup xs) hq).trans (aF.new (o:=.tup [.int (1+r),.ref q]) hp)
   refine k (1+r) ws p _ (aDq (by omega) (by omega) (by omega) hw) (b5.trans (But.of sm)) (T5.same sm) ?_
   refine sP (SqT.of aC) ((aF.new hp).seqT (SqT.of aC)) (sm.denAll _ _ hd)
theorem yJ.hand {H:Hp} {x y:V} {n:Int} {ws:List (List Int)} {hs:List Int} (g:yJ K H x y n ws hs) {i:Nat} {h:Int} (e:hs[i]?=some h):0<=h/\h < n:=by
 obtain ⟨_,_,_,hw⟩:=cK g.2.1
 obtain ⟨hl,hd⟩:=yP g.2.2.2
 have hi:i < ws.length:=by rw [<- hl]; exact (Qc.mp e).1
 have hm:=hd i h ws[i] e (Qd hi)
 exact (eT (hw _ (Xv hi))).2.1 h hm
theorem jG {n:Int} {hs:List Int} {j:Nat} (h:j < n.toNat):(cL n hs)[j]?=some ((hs.count (j:Int):Nat):Int):=by
 unfold cL
 rw [Qh,aB8 h]
 rfl
theorem qN {n:Int} {hs:List Int} {j:Nat} (h:n.toNat<=j):(cL n hs)[j]?=none:=by
 rw [Ya,gB]; exact h
theorem yQ (n:Int):(List.replicate n.toNat [V.int 0]).flatten=(cL n []).map V.int:=by
 rw [Zk]
 refine Yc fun j=>?_
 rw [Qh]
 by_cases h:j < n.toNat
 ·rw [jG h,Xa,if_pos h]
  rfl
 ·rw [qN (by omega),Xa,if_neg h]
  rfl
theorem wU {n:Int} {hs:List Int} {h:Int} (h0:0<=h) (h1:h < n):((cL n hs).map V.int).set h.toNat (.int (((hs.count h:Nat):Int)+1))=(cL n (hs++[h])).map V.int:=by
 refine Yc fun j=>?_
 by_cases hj:j < n.toNat
 ·rw [Qh,jG hj,List.count_append,Zm]
  have hl:((cL n hs).map V.int).length=n.toNat:=by rw [Qb,gB]
  by_cases e:h.toNat=j
  ·have e':(j:Int)=h:=by omega
   rw [if_pos e,if_pos (by rw [hl]; omega),e',Yp]
   simp
  ·have e':¬ h=(j:Int):=by omega
   rw [if_neg e,Qh,jG hj,Yp]
   simp [e']
 ·rw [Qh,qN (by omega),Ya.mpr]
  ·rfl
  ·rw [Zh,Qb,gB]; omega
end
end Ab
namespace Ab
def jM (ws:List (List Int)) (hs:List Int) (g:Int) (w:Nat) (t:Int):Prop:=hs[w]?=some g/\∃ l,ws[w]?=some l/\t∈l/\t≠g
def RL (ws:List (List Int)) (hs:List Int):Nat->Int->Int->Prop
 | 0,h,x=>h=x
 | k+1,h,x=>h=x∨∃ w o,jM ws hs h w o/\RL ws hs k o x
def eU (ws:List (List Int)) (hs:List Int):Int->List (Nat×Int×Int)->Int->Prop
 | h,[],x=>h=x
 | h,s::r,x=>s.2.1=h/\jM ws hs h s.1 s.2.2/\eU ws hs s.2.2 r x
section
variable {ws:List (List Int)} {hs:List Int}
theorem RL.refl:∀ (k:Nat) (h:Int),RL ws hs k h h
 | 0,_=>rfl
 | _+1,_=>.inl rfl
theorem RL.succ:∀ {k:Nat} {h x:Int},RL ws hs k h x->RL ws hs (k+1) h x
 | 0,_,_,e=>.inl e
 | k+1,_,_,.inl e=>.inl e
 | k+1,_,_,.inr ⟨w,o,e,r⟩=>.inr ⟨w,o,e,RL.succ r⟩
theorem RL.mono {k m:Nat} {h x:Int} (r:RL ws hs k h x) (le:k<=m):RL ws hs m h x:=by
 induction le with
 | refl=>exact r
 | step _ ih=>exact ih.succ
theorem RL.snoc:∀ {k:Nat} {h g t:Int} {w:Nat},RL ws hs k h g->jM ws hs g w t->RL ws hs (k+1) h t
 | 0,_,_,_,w,e,d=>by subst e; exact .inr ⟨w,_,d,rfl⟩
 | k+1,_,_,_,w,.inl e,d=>by subst e; exact .inr ⟨w,_,d,RL.refl _ _⟩
 | k+1,_,_,_,_,.inr ⟨w',o,e,r⟩,d=>.inr ⟨w',o,e,RL.snoc r d⟩
theorem eU.snoc:∀ {h g:Int} {r:List (Nat×Int×Int)} {w:Nat} {t:Int},eU ws hs h r g->jM ws hs g w t->eU ws hs h (r++[(w,g,t)]) t
 | _,_,[],_,_,e,d=>by cases e; exact ⟨rfl,d,rfl⟩
 | _,_,_::_,_,_,⟨e1,e2,e3⟩,d=>⟨e1,e2,eU.snoc e3 d⟩
def aDS (ws:List (List Int)) (hs:List Int) (n:Nat) (h v:Int):Prop:=(∃ x,RL ws hs n h x/\v=((hs.count x:Nat):Int))/\∀ k x,RL ws hs k h x->v<=((hs.count x:Nat):Int)
theorem aDS.le {n:Nat} {h v:Int} (m:aDS ws hs n h v):v<=((hs.count h:Nat):Int):=m.2 0 h rfl
def aDT (n:Int) (ws:List (List Int)) (hs:List Int) (ss:List (Nat×Int×Int)):Prop :=
 ∃ h x,ss≠[]/\eU ws hs h ss x/\(h::ss.map (·.2.2)).Nodup/\0<=h/\h < n/\RL ws hs n.toNat h x/\2<=((hs.count h:Nat):Int) - ((hs.count x:Nat):Int)
end
theorem nK:∀ (n:Nat) (l:List Int),l.Nodup->(∀ x∈l,0<=x/\x < (n:Int))->l.length<=n
 | 0,[],_,_=>Qi _
 | 0,x::_,_,h=>by have:=h x (.head _); omega
 | n+1,l,hn,h=>by
  by_cases hm:(n:Int)∈l
  ·have h1:=nK n (l.erase (n:Int)) (hn.erase _) fun x hx=>by
    have h2:=(hn.mem_erase_iff).mp hx
    have h3:=h x h2.2
    have:=h2.1
    omega
   rw [List.length_erase_of_mem hm] at h1
   omega
  ·have h1:=nK n l hn fun x hx=>by
    have h3:=h x hx
    have:x≠(n:Int):=fun z=>hm (z ▸ hx)
    omega
   omega
end Ab
namespace L2
open PySem
theorem aF.wr {H H':Hp} {a:Addr} {u:HO} (e:aF H H') (h:H a=none):aF H (upd H' a u):=fun b o q=>by
 rw [aK (fun z=>by rw [z,h] at q; cases q)]
 exact e b o q
end L2
namespace Ab
open PySem L2
theorem aAi {xs:List Int} {i:Nat} {v:V} (h:(xs.map V.int)[i]?=some v):∃ a,xs[i]?=some a/\v=.int a:=by
 rw [Qh] at h
 cases q:xs[i]? with
 | none=>rw [q] at h; cases h
 | some a=>rw [q] at h; exact ⟨a,rfl,(Option.some.inj h).symm⟩
theorem aEG {n:Nat} {k:Int} (h0:0<=k) (h1:k < n):ixN n k=some k.toNat:=by
 unfold ixN
 rw [if_pos h0,if_pos (by omega)]
def rN (E:Nat->Int->Prop) (r:List (Key×V)):Prop:=(∀ k v,cW r k=some v->∃ (w:Nat) (t:Int),k=.inl t/\v=.int (w:Nat)/\E w t)/\∀ w t,E w t->(cW r (.inl t)).isSome=true
theorem rN.nil {E:Nat->Int->Prop} (h:∀ w t,¬ E w t):rN E []:=⟨fun k v e=>(by rw [aBO] at e; cases e),fun w t e=>(h w t e).elim⟩
theorem rN.put {E:Nat->Int->Prop} {r:List (Key×V)} (h:rN E r) (w:Nat) (t:Int):rN (fun w' t'=>E w' t'∨(w'=w/\t'=t)) (jA r (.inl t) (.int (w:Nat))):=by
 refine ⟨fun k v e=>?_,fun w' t' e=>?_⟩
 ·rw [vY] at e
  by_cases hk:k=Sum.inl t
  ·rw [if_pos hk] at e
   exact ⟨w,t,hk,(Option.some.inj e).symm,.inr ⟨rfl,rfl⟩⟩
  ·rw [if_neg hk] at e
   obtain ⟨w',t',h1,h2,h3⟩:=h.1 k v e
   exact ⟨w',t',h1,h2,.inl h3⟩
 ·rw [vY]
  by_cases hk:(Sum.inl t':Key)=Sum.inl t
  ·rw [if_pos hk]; rfl
  ·rw [if_neg hk]
   rcases e with e | ⟨_,e⟩
   ·exact h.2 w' t' e
   ·exact absurd (by rw [e]) hk
theorem rN.congr {E E':Nat->Int->Prop} {r:List (Key×V)} (h:rN E r) (e:∀ w t,E w t↔E' w t):rN E' r:=⟨fun k v q=>let ⟨w,t,a,b,c⟩:=h.1 k v q; ⟨w,t,a,b,(e w t).mp c⟩,fun w t q=>h.2 w t ((e w t).mpr q)⟩
structure Rows (H:Hp) (rp:Addr) (qs:List Addr) (rs:List (List (Key×V))):Prop where
 lst:H rp=some (.lst (qs.map V.ref))
 len:qs.length=rs.length
 nd:qs.Nodup
 row:∀ (g:Nat) q r,qs[g]?=some q->rs[g]?=some r->H q=some (.dK r)
theorem Rows.same {H H':Hp} {rp:Addr} {qs:List Addr} {rs:List (List (Key×V))} (h:Rows H rp qs rs) (s:aF H H'):Rows H' rp qs rs:=⟨s _ _ h.lst,h.len,h.nd,fun g q r a b=>s _ _ (h.row g q r a b)⟩
theorem Rows.put {H:Hp} {rp:Addr} {qs:List Addr} {rs:List (List (Key×V))} (h:Rows H rp qs rs) {g:Nat} {q:Addr} {r r':List (Key×V)} (hq:qs[g]?=some q) (hr:rs[g]?=some r):Rows (upd H q (.dK r')) rp qs (rs.set g r'):=by
 have hg:=h.row g q r hq hr
 have nq:rp≠q:=fun z=>by have:=h.lst; rw [z,hg] at this; cases this
 refine ⟨by rw [aK nq]; exact h.lst,by rw [Zh]; exact h.len,h.nd,fun g2 q2 r2 h1 h2=>?_⟩
 rw [Zm] at h2
 by_cases e:g=g2
 ·subst e
  rw [if_pos rfl] at h2
  rw [hq] at h1
  cases h1
  by_cases hl:g < rs.length
  ·rw [if_pos hl] at h2; cases h2; exact aC
  ·rw [if_neg hl] at h2; cases h2
 ·rw [if_neg e] at h2
  have n2:q2≠q:=fun z=>by
   subst z
   have hlt:g < qs.length:=(Qc.mp hq).1
   exact e ((Ye hlt h.nd).mp (hq.trans h1.symm))
  rw [aK n2]
  exact h.row g2 q2 r2 h1 h2
theorem Rows.other {H:Hp} {rp a:Addr} {u:HO} {qs:List Addr} {rs:List (List (Key×V))} (h:Rows H rp qs rs) (hn:H a=none):Rows (upd H a u) rp qs rs:=h.same (aF.new hn)
def aAj (E:Int->Nat->Int->Prop) (rs:List (List (Key×V))) (m:Nat):Prop:=∀ (g:Nat) r,rs[g]?=some r->rN (E g) r/\r.length<=m
section
variable {P:Program} {w:World} {K:PySem.W.Frag} {mg:Str->Option Value} {base:Heap}
end
def Tp (H H':Hp):Prop:=∀ p xs,H p=some (.tup xs)->H' p=some (.tup xs)
theorem Tp.of {H H':Hp} (s:aF H H'):Tp H H':=fun _ _ h=>s _ _ h
theorem Tp.trans {H H1 H2:Hp} (a:Tp H H1) (b:Tp H1 H2):Tp H H2:=fun p xs h=>b p xs (a p xs h)
theorem Tp.upd {H:Hp} {a:Addr} {u:HO} (h:∀ xs,H a≠some (.tup xs)):Tp H (upd H a u):=fun p xs e=>by
 have ne:p≠a:=fun z=>h xs (by rw [<- z]; exact e)
 rw [aK ne]; exact e
theorem oN {fs:List (Key×V)} {os:List Int} (h:fs.map (·.1)=os.map Sum.inl) (t:Int):(cW fs (.inl t)).isSome=decide (t∈os):=by
 rw [<- gC]
 have:(fs.any fun kv=>decide (kv.1=Sum.inl t))=((fs.map (·.1)).any fun k=>decide (k=Sum.inl t)):=by rw [Wb]; rfl
 rw [this,h,Wb,Xq]
 simp
structure Tree (ws:List (List Int)) (hs:List Int) (n first:Int) (H:Hp) (fs:List (Key×V)) (os:List Int):Prop where
 keys:fs.map (·.1)=os.map Sum.inl
 nd:os.Nodup
 rng:∀ o∈os,0<=o/\o < n
 head:os[0]?=some first
 v0:cW fs (.inl first)=some .non
 par:∀ (j:Nat) (t:Int),0 < j->os[j]?=some t->∃ (p:Addr) (w:Nat) (g:Int) (i:Nat),cW fs (.inl t)=some (.ref p)/\H p=some (.tup [.int (w:Nat),.int g,.int t])/\jM ws hs g w t/\i < j/\os[i]?=some g
section
variable {ws:List (List Int)} {hs:List Int} {n first:Int} {H H':Hp} {fs:List (Key×V)} {os:List Int}
theorem Tree.tp (T:Tree ws hs n first H fs os) (e:Tp H H'):Tree ws hs n first H' fs os :=
 ⟨T.keys,T.nd,T.rng,T.head,T.v0,fun j t h0 h1=>let ⟨p,w,g,i,a,b,c⟩:=T.par j t h0 h1; ⟨p,w,g,i,a,e _ _ b,c⟩⟩
theorem Tree.len (T:Tree ws hs n first H fs os):os.length<=n.toNat:=nK _ _ T.nd fun x hx=>by have:=T.rng x hx; omega
theorem Tree.flen (T:Tree ws hs n first H fs os):fs.length=os.length:=by
 have:=congrArg Ys T.keys
 rwa [Qb,Qb] at this
theorem Tree.one (h0:0<=first) (h1:first < n):Tree ws hs n first H [(.inl first,.non)] [first] :=
 ⟨rfl,by simp,fun o ho=>by rw [Qr.mp ho]; exact ⟨h0,h1⟩,rfl,cY rfl,fun j t h2 h3=>by
  cases j with
  | zero=>omega
  | succ j=>simp at h3⟩
theorem Tree.grow (T:Tree ws hs n first H fs os) {p:Addr} {w:Nat} {g t:Int} {i:Nat} (hp:H p=some (.tup [.int (w:Nat),.int g,.int t])) (e:jM ws hs g w t) (hi:os[i]?=some g) (ht:t∉os) (r0:0<=t) (r1:t < n) :
  Tree ws hs n first H (fs++[(.inl t,.ref p)]) (os++[t]):=by
 have hv:cW fs (.inl t)=none:=by
  have:=oN T.keys t
  rw [decide_eq_false ht] at this
  cases q:cW fs (.inl t) with
  | none=>rfl
  | some v=>rw [q] at this; cases this
 have hlt:i < os.length:=(Qc.mp hi).1
 have val:∀ j:Key,cW (fs++[(.inl t,.ref p)]) j=if j=.inl t then some (.ref p) else cW fs j:=fun j=>nG _ _ _ _ hv
 have hf:first∈os:=Qj T.head
 refine ⟨by rw [Qy,Qy,T.keys]; rfl,?_,fun o ho=>?_,?_,?_,fun j t' h0 h1=>?_⟩
 ·rw [List.nodup_append]
  exact ⟨T.nd,by simp,fun x hx y hy z=>ht (by rw [<- Qr.mp hy,<- z]; exact hx)⟩
 ·rcases Jf.mp ho with h | h
  ·exact T.rng o h
  ·rw [Qr.mp h]; exact ⟨r0,r1⟩
 ·rw [Je (by omega)]; exact T.head
 · rw [val, if_neg (fun z => ht (by have : first = t := by simpa using z
                                    rw [<- this]; exact hf))]
   exact T.v0
 ·by_cases hj:j < os.length
  ·rw [Je hj] at h1
   obtain ⟨p',w',g',i',a,b,c,d,e'⟩:=T.par j t' h0 h1
   have ne : (Sum.inl t' : Key) ≠ Sum.inl t := fun z => ht (by have : t' = t := by simpa using z
                                                               rw [<- this]; exact Qj h1)
   exact ⟨p',w',g',i',by rw [val,if_neg ne]; exact a,b,c,d,by rw [Je (by omega)]; exact e'⟩
  ·have ej:j=os.length:=by
    have:=(Qc.mp h1).1
    rw [Qs] at this
    simp at this
    omega
   subst ej
   rw [Xn (Qi _),Nat.sub_self] at h1
   have et:t'=t:=by simpa using h1.symm
   subst et
   exact ⟨p,w,g,i,by rw [val,if_pos rfl],hp,e,hlt,by rw [Je hlt]; exact hi⟩
end
section
variable {P:Program} {w:World} {K:PySem.W.Frag} {mg:Str->Option Value} {base:Heap}
def aCd (ws:List (List Int)) (hs os:List Int):Prop:=∀ g∈os,∀ w t,jM ws hs g w t->t∈os
def sQ (K:PySem.W.Frag):Sp:=fun vs H Q _=>∃ rp first qs rs n ws hs,vs = [.ref rp,.int first]/\Rows H rp qs rs/\rs.length=n.toNat/\aAj (jM ws hs) rs 100/\(∀ g w t,jM ws hs g w t->0<=t/\t < n)/\n<=7/\0<=first/\first < n /\
 ∀ fd H' fs os,aF H H'->H fd=none->H' fd=some (.dK fs)->Tree ws hs n first H' fs os->aCd ws hs os->Q (.ref fd) H'
theorem iQ:FnScope ["rows", "first", "found", "waiting", "giver", "taker"] ["rows", "first"] (aO kG):=⟨rfl,rfl,rfl,by decide +kernel,rfl,by decide +kernel,by decide +kernel⟩
theorem yR {f:Addr} {fd:FuncData} (G:Fn K mg "reached" kG ["rows", "first"] f fd) (B:Bl mg):FnOk P w K mg base CX0 1 f fd ["rows", "first"] (sQ K):=by
 refine G.fn.ok iQ (fun vs H Q E h=>?_) (fun cdv A outer s H vs Q E hr h=>?_)
 ·obtain ⟨rp,first,qs,rs,n,ws,hs,rfl,_⟩:=h
  rfl
 ·obtain ⟨rp,first,qs,rs,n,ws,hs,rfl,R,hlr,ER,hedge,hn6,hf0,hf1,k⟩:=h
  refine ⟨_,(aG (aX (i:=2) iQ.nd rfl (Or.inl rfl) (aBT (pv 1) iR))
   (aG (aX (i:=3) iQ.nd rfl (Or.inl rfl) (dE (aA (pv 1) aE)))
   (aG (oR PassesOwn.never (aBg (pv 3) (fun _=>rfl))
    (aG (aX (i:=4) iQ.nd rfl (Or.inl rfl) (nU PySem.F.plainAttrs_list PySem.F.slot_list_pop PySem.F.type_list_pop aBo (pv 3) (aA aH aE)))
    (aL (zY (eP PassesOwn.never rfl (zX (bO cB (pv 0) (pv 4) (fun _ _=>rfl))) (aS (i:=5) iQ.nd rfl (Or.inl rfl))
     (aL (bW (xI (aAQ (pC hr) (pv 5) (pv 2)) (by with_unfolding_all rfl))
      (aG (zW (pC hr) (pv 2) (pv 5) (eY (aA (tX (pC hr) (bO cB (pv 0) (pv 4) (fun _ _=>rfl)) (pv 5) (fun _ _=>rfl)) (aA (pv 4) (aA (pv 5) aE)))) rfl)
      (aL (bV (nU PySem.F.plainAttrs_list PySem.F.slot_list_append PySem.F.type_list_append gM (pv 3) (aA (pv 5) aE)))))
      bH)))))))
   (aL (bA (pv 2)))))),?_⟩
  intro fd0 hfd0
  refine ⟨_,rfl,.inl first,rfl,aC,?_⟩
  rw [aCC]
  have s1:=aF.new (o:=.dK [(.inl first,.non)]) hfd0
  have e1:upd H fd0 (.dK [(.inl first,.non)]) fd0=some (.dK [(.inl first,.non)]):=aC
  generalize upd H fd0 (.dK [(.inl first,.non)])=H1 at s1 e1 ⊢
  refine ⟨_,rfl,sz1 _,fun wt hwt=>?_⟩
  have hwt0:H wt=none:=s1.free hwt
  have nfw:fd0≠wt:=fun z=>by rw [z,hwt] at e1; cases e1
  have s2:=s1.trans (aF.new (o:=.lst [.int first]) hwt)
  have e2:=(aF.new (o:=.lst [.int first]) hwt) _ _ e1
  have w2:upd H1 wt (.lst [.int first]) wt=some (.lst [.int first]):=aC
  generalize upd H1 wt (.lst [.int first])=H2 at s2 e2 w2 ⊢
  -- the while
  refine ⟨fun m σ H3=>∃ (v4 v5:Option V) (mm:Nat) (fs:List (Key×V)) (os:List Int),σ = [some (.ref rp),some (.int first),some (.ref fd0),some (.ref wt),v4,v5]/\m=n.toNat - mm/\aF H H3/\H3 fd0=some (.dK fs)/\H3 wt=some (.lst ((os.drop mm).map V.int))/\Tree ws hs n first H3 fs os/\mm<=os.length /\
    ∀ (i:Nat) (g:Int),i < mm->os[i]?=some g->∀ w t,jM ws hs g w t->t∈os,
   ⟨n.toNat - 0,none,none,0,_,[first],rfl,rfl,s2,e2,w2,Tree.one hf0 hf1,Jm _,fun i g hi=>absurd hi (Zv _)⟩,?_⟩
  rintro m σ H3 ⟨v4,v5,mm,fs,os,rfl,rfl,s3,e3,w3,T3,hmm,pr3⟩
  refine ⟨_,rfl,!((os.drop mm).map V.int).isEmpty,.inl ⟨_,SqL.of w3,rfl⟩,?_⟩
  by_cases hend:mm < os.length
  ·-- a turn
   have hne:(os.drop mm)≠[]:=by
    intro z
    have:=congrArg Ys z
    rw [Jt] at this
    simp at this
    omega
   have hb:(!((os.drop mm).map V.int).isEmpty)=true:=by
    cases q:os.drop mm with
    | nil=>exact absurd q hne
    | cons _ _=>rfl
   rw [hb]
   refine eD ?_
   have hdrop:os.drop mm=os[mm]::os.drop (mm+1):=Zz hend
   have hgm:os[mm]?=some (os[mm]):=Qd hend
   generalize os[mm]=g at hdrop hgm
   obtain ⟨hg0,hg1⟩:=T3.rng g (Qj hgm)
   have holen:=T3.len
   refine ⟨fun σ' H'=>∃ m',m' < n.toNat - mm/\∃ (v4 v5:Option V) (mm:Nat) (fs:List (Key×V)) (os:List Int),σ' = [some (.ref rp),some (.int first),some (.ref fd0),some (.ref wt),v4,v5]/\m'=n.toNat - mm/\aF H H'/\H' fd0=some (.dK fs)/\H' wt=some (.lst ((os.drop mm).map V.int))/\Tree ws hs n first H' fs os/\mm<=os.length /\
    ∀ (i:Nat) (g:Int),i < mm->os[i]?=some g->∀ w t,jM ws hs g w t->t∈os,fun σ' H' z=>z,?_⟩
   refine ⟨_,rfl,.inl ⟨rfl,_,SqL.of w3⟩,?_⟩
   have hx0:((os.drop mm).map V.int)[0]?=some (.int g):=by rw [hdrop]; rfl
   have hxl:0 < ((os.drop mm).map V.int).length:=(Qc.mp hx0).1
   refine ⟨wt,_,0,0,.int g,rfl,rfl,w3,by decide,by decide,mK (i:=0) (by decide) hxl,hx0,?_⟩
   have her:((os.drop mm).map V.int).eraseIdx 0=(os.drop (mm+1)).map V.int:=by rw [hdrop]; rfl
   rw [her]
   have s4:=s3.wr (u:=.lst ((os.drop (mm+1)).map V.int)) hwt0
   have e4:upd H3 wt (.lst ((os.drop (mm+1)).map V.int)) fd0=some (.dK fs):=by rw [aK nfw]; exact e3
   have w4:upd H3 wt (.lst ((os.drop (mm+1)).map V.int)) wt=some (.lst ((os.drop (mm+1)).map V.int)):=aC
   have T4:=T3.tp (Tp.upd (a:=wt) (u:=.lst ((os.drop (mm+1)).map V.int)) fun xs z=>by rw [w3] at z; cases z)
   generalize upd H3 wt (.lst ((os.drop (mm+1)).map V.int))=H4 at s4 e4 w4 T4 ⊢
   -- the row
   have R4:=R.same s4
   have hgl:g.toNat < qs.length:=by rw [R.len,hlr]; omega
   have hcast:((g.toNat:Nat):Int)=g:=by omega
   obtain ⟨qg,hqg⟩:∃ q,qs[g.toNat]?=some q:=⟨_,Qd hgl⟩
   obtain ⟨r,hr⟩:∃ r,rs[g.toNat]?=some r:=⟨_,Qd (by rw [hlr]; omega)⟩
   have hat:atI (qs.map V.ref) g=some (.ref qg):=by
    have:=eZ (xs:=qs.map V.ref) (j:=g.toNat) (v:=.ref qg) (by rw [Qh,hqg]; rfl)
    rwa [hcast] at this
   have hrow:=R.row _ _ _ hqg hr
   have hrow4:=s4 _ _ hrow
   obtain ⟨hRE,hRl⟩:=ER _ _ hr
   rw [hcast] at hRE
   have nqf:qg≠fd0:=fun z=>by rw [z,hfd0] at hrow; cases hrow
   have nqw:qg≠wt:=fun z=>by rw [z,hwt0] at hrow; cases hrow
   have nqr:rp≠qg:=fun z=>by have:=R.lst; rw [z,hrow] at this; cases this
   refine ⟨_,rfl,_,rfl,rp,_,g,_,rfl,rfl,SqL.of R4.lst,hat,qg,r,rfl,hrow4,fun o nf=>?_⟩
   have z5:upd H4 qg (.frz o (.dK r)) qg=some (.frz o (.dK r)):=aC
   have b5:But qg H (upd H4 qg (.frz o (.dK r))):=fun b u nb hb=>by rw [aK nb]; exact s4 _ _ hb
   have e5:upd H4 qg (.frz o (.dK r)) fd0=some (.dK fs):=by rw [aK (Ne.symm nqf)]; exact e4
   have w5:upd H4 qg (.frz o (.dK r)) wt=some (.lst ((os.drop (mm+1)).map V.int)):=by rw [aK (Ne.symm nqw)]; exact w4
   have T5:=T4.tp (Tp.upd (a:=qg) (u:=.frz o (.dK r)) fun xs z=>by rw [hrow4] at z; cases z)
   generalize upd H4 qg (.frz o (.dK r))=H5 at z5 b5 e5 w5 T5 ⊢
   refine aBS (a:=qg) (o:=o) (kvs:=r) (fun j σ H6=>∃ (v5:Option V) (fs:List (Key×V)) (os:List Int),σ = [some (.ref rp),some (.int first),some (.ref fd0),some (.ref wt),some (.int g),v5]/\H6 qg=some (.frz o (.dK r))/\But qg H H6/\H6 fd0=some (.dK fs)/\H6 wt=some (.lst ((os.drop (mm+1)).map V.int))/\Tree ws hs n first H6 fs os/\mm+1<=os.length/\os[mm]?=some g /\
     (∀ (i:Nat) (g:Int),i < mm->os[i]?=some g->∀ w t,jM ws hs g w t->t∈os)/\∀ (i:Nat) k v t,i < j->r[i]?=some (k,v)->k=.inl t->t∈os)
    ⟨v5,fs,os,rfl,z5,b5,e5,w5,T5,hend,hgm,pr3,fun i k v t hi=>absurd hi (Zv _)⟩ (fun j σ H6 _ ⟨_,_,_,_,h,_⟩=>h) ?_ ?_
   ·rintro j ⟨key,val⟩ σ H6 hj ⟨v5,fs,os,rfl,z6,b6,e6,w6,T6,hl6,hg6,pr6,dn6⟩
    -- the key is a hand,its value a work
    obtain ⟨val',hval⟩:∃ v,cW r key=some v:=by
     have:(cW r key).isSome=true:=by
      rw [<- gC,Zg]
      exact ⟨_,Qj hj,by simp⟩
     cases q:cW r key with
     | none=>rw [q] at this; cases this
     | some v=>exact ⟨v,rfl⟩
    obtain ⟨wk,t,rfl,rfl,hE⟩:=hRE.1 _ _ hval
    obtain ⟨ht0,ht1⟩:=hedge _ _ _ hE
    dsimp only [kV]
    have dn:∀ (os':List Int),t∈os'->(∀ x∈os,x∈os')->∀ (i:Nat) k v t',i < j+1->r[i]?=some (k,v)->k=.inl t'->t'∈os':=fun os' h1 h2 i k v t' hi hk he=>by
     by_cases hij:i < j
     ·exact h2 _ (dn6 i k v t' hij hk he)
     ·have:i=j:=by omega
      subst this
      rw [hj] at hk
      cases hk
      have:t=t':=by simpa using he
      rw [<- this]; exact h1
    refine ⟨_,rfl,_,rfl,fd0,_,rfl,nH.k (k:=.inl t) e6,_,rfl,?_⟩
    rw [oN T6.keys]
    by_cases htm:t∈os
    ·rw [decide_eq_true htm]
     refine eQ ?_
     exact ⟨_,fs,os,rfl,z6,b6,e6,w6,T6,hl6,hg6,pr6,dn os htm fun _ h=>h⟩
    ·rw [decide_eq_false htm]
     refine eD ?_
     have hR6:H6 rp=some (.lst (qs.map V.ref)):=b6 _ _ nqr R.lst
     refine ⟨_,rfl,_,rfl,rp,_,g,_,rfl,rfl,SqL.of hR6,hat,_,rfl,qg,.int (wk:Nat),rfl,.inl ⟨r,.inl t,.inr ⟨o,z6⟩,rfl,hval.symm⟩,_,rfl,_,rfl,eM (show 3<=1000 by decide),fun p hp=>?_⟩
     have sp:=aF.new (o:=.tup [.int (wk:Nat),.int g,.int t]) hp
     have ep:upd H6 p (.tup [.int (wk:Nat),.int g,.int t]) p=_:=aC
     have b7:But qg H (upd H6 p (.tup [.int (wk:Nat),.int g,.int t])):=b6.trans (But.of sp)
     have z7:=sp _ _ z6
     have e7:=sp _ _ e6
     have w7:=sp _ _ w6
     have T7:=T6.tp (Tp.of sp)
     generalize upd H6 p (.tup [.int (wk:Nat),.int g,.int t])=H7 at sp ep b7 z7 e7 w7 T7 ⊢
     have hv:cW fs (.inl t)=none:=by
      have:=oN T7.keys t
      rw [decide_eq_false htm] at this
      cases q:cW fs (.inl t) with
      | none=>rfl
      | some v=>rw [q] at this; cases this
     have T7l:=T7.len
     have T7f:=T7.flen
     have T8:=T7.grow ep hE hg6 htm ht0 ht1
     have hput:jA fs (.inl t) (.ref p)=fs++[(.inl t,.ref p)]:=aBP _ hv
     refine ⟨_,rfl,_,rfl,fd0,_,rfl,wB.k (k:=.inl t) e7 (by rw [sizeLine_eq]; omega),?_⟩
     rw [hput]
     have b8:But qg H (upd H7 fd0 (.dK (fs++[(.inl t,.ref p)]))):=fun b u nb hb=>by
      rw [aK (fun z=>by rw [z,hfd0] at hb; cases hb)]
      exact b7 b u nb hb
     have z8:upd H7 fd0 (.dK (fs++[(.inl t,.ref p)])) qg=some (.frz o (.dK r)):=by rw [aK nqf]; exact z7
     have e8:upd H7 fd0 (.dK (fs++[(.inl t,.ref p)])) fd0=_:=aC
     have w8:upd H7 fd0 (.dK (fs++[(.inl t,.ref p)])) wt=some (.lst ((os.drop (mm+1)).map V.int)):=by rw [aK (Ne.symm nfw)]; exact w7
     have T8':=T8.tp (Tp.upd (a:=fd0) (u:=.dK (fs++[(.inl t,.ref p)])) fun xs z=>by rw [e7] at z; cases z)
     generalize upd H7 fd0 (.dK (fs++[(.inl t,.ref p)]))=H8 at b8 z8 e8 w8 T8' ⊢
     refine ⟨_,rfl,.inl ⟨rfl,_,SqL.of w8⟩,_,rfl,wt,_,.int t,rfl,rfl,w8,by rw [Qb,Jt,sizeLine_eq]; omega,?_⟩
     have hdr:(os.drop (mm+1)).map V.int++[V.int t]=((os++[t]).drop (mm+1)).map V.int:=by
      rw [List.drop_append_of_le_length hl6,Qy]; rfl
     rw [hdr]
     refine ⟨_,_,os++[t],rfl,by rw [aK nqw]; exact z8,fun b u nb hb=>?_,by rw [aK nfw]; exact e8,aC,T8'.tp (Tp.upd fun xs z=>by rw [w8] at z; cases z),by rw [Qs]; omega,by rw [Je (by omega)]; exact hg6,fun i g' hi hg' w t' e'=>?_,dn _ (by simp) fun x hx=>Jq _ hx⟩
     ·rw [aK (fun z=>by rw [z,hwt0] at hb; cases hb)]
      exact b8 b u nb hb
     ·rw [Je (by omega)] at hg'
      exact Jq _ (pr6 i g' hi hg' w t' e')
   ·rintro σ H6 ⟨v5,fs,os,rfl,z6,b6,e6,w6,T6,hl6,hg6,pr6,dn6⟩
    refine ⟨qg,o,r,z6,nf,?_⟩
    have hole:=T6.len
    have s7:aF H (upd H6 qg (.dK r)):=fun b u hb=>by
     by_cases hbq:b=qg
     ·rw [hbq] at hb ⊢
      rw [aC,<- hrow]; exact hb
     ·rw [aK hbq]; exact b6 b u hbq hb
    refine ⟨n.toNat - (mm+1),by omega,_,_,mm+1,fs,os,rfl,rfl,s7,by rw [aK (Ne.symm nqf)]; exact e6,by rw [aK (Ne.symm nqw)]; exact w6,T6.tp (Tp.upd fun xs z=>by rw [z6] at z; cases z),hl6,fun i g' hi hg' w t e=>?_⟩
    by_cases him:i < mm
    ·exact pr6 i g' him hg' w t e
    ·have:i=mm:=by omega
     subst this
     rw [hg6] at hg'
     cases hg'
     have hs:=hRE.2 w t e
     rw [<- gC,Zg] at hs
     obtain ⟨⟨k,v⟩,hk,he⟩:=hs
     obtain ⟨j,hj⟩:=Ji.mp hk
     exact dn6 j k v t (Qc.mp hj).1 hj (by simpa using he)
  ·have hlen:mm=os.length:=by omega
   have hb:(!((os.drop mm).map V.int).isEmpty)=false:=by rw [hlen,List.drop_length]; rfl
   rw [hb]
   refine eQ ?_
   refine ⟨_,rfl,k fd0 H3 fs os s3 hfd0 e3 T3 fun g hg w t e=>?_⟩
   obtain ⟨i,hi⟩:=Ji.mp hg
   exact pr3 i g (by have:=(Qc.mp hi).1; omega) hi w t e
structure StepsAt (H:Hp) (ps:List Addr) (ss:List (Nat×Int×Int)):Prop where
 len:ps.length=ss.length
 at_:∀ (i:Nat) p s,ps[i]?=some p->ss[i]?=some s->H p=some (.tup [.int (s.1:Nat),.int s.2.1,.int s.2.2])
theorem StepsAt.nil {H:Hp}:StepsAt H [] []:=⟨rfl,fun i p s h=>by simp at h⟩
theorem StepsAt.cons {H:Hp} {ps:List Addr} {ss:List (Nat×Int×Int)} (h:StepsAt H ps ss) {p:Addr} {w:Nat} {g t:Int} (hp:H p=some (.tup [.int (w:Nat),.int g,.int t])):StepsAt H (p::ps) ((w,g,t)::ss):=by
 refine ⟨by rw [Jk,Jk,h.len],fun i p' s h1 h2=>?_⟩
 cases i with
 | zero =>
  have e1:p=p':=by simpa using h1
  have e2:(w,g,t)=s:=by simpa using h2
  subst e1 e2
  exact hp
 | succ i=>exact h.at_ i p' s (by simpa using h1) (by simpa using h2)
theorem StepsAt.tp {H H':Hp} {ps:List Addr} {ss:List (Nat×Int×Int)} (h:StepsAt H ps ss) (e:Tp H H'):StepsAt H' ps ss:=⟨h.len,fun i p s a b=>e _ _ (h.at_ i p s a b)⟩
def aAk (K:PySem.W.Frag):Sp:=fun vs H Q _=>∃ fdp last fs os first n ws hs jl,vs = [.ref fdp,.int last]/\H fdp=some (.dK fs)/\Tree ws hs n first H fs os/\n<=7/\os[jl]?=some last /\
 ∀ p H' ps ss,aF H H'->H p=none->H' p=some (.lst (ps.map V.ref))->StepsAt H' ps ss->eU ws hs first ss last->(first::ss.map (·.2.2)).Nodup->(∀ s∈ss,s.2.2∈os)->(0 < jl->ss≠[])->Q (.ref p) H'
theorem oO:FnScope ["found", "last", "some", "step"] ["found", "last"] (aO qF):=⟨rfl,rfl,rfl,by decide +kernel,rfl,by decide +kernel,by decide +kernel⟩
theorem aCe {f:Addr} {fd:FuncData} (G:Fn K mg "way_to" qF ["found", "last"] f fd) (B:Bl mg):FnOk P w K mg base CX0 1 f fd ["found", "last"] (aAk K):=by
 refine G.fn.ok oO (fun vs H Q E h=>?_) (fun cdv A outer s H vs Q E hr h=>?_)
 ·obtain ⟨fdp,last,fs,os,first,n,ws,hs,jl,rfl,_⟩:=h
  rfl
 ·obtain ⟨fdp,last,fs,os,first,n,ws,hs,jl,rfl,hfd,T,hn6,hjl,k⟩:=h
  refine ⟨_,(aG (aX (i:=2) oO.nd rfl (Or.inl rfl) (dE aE))
   (aG (aX (i:=3) oO.nd rfl (Or.inl rfl) (tX (pC hr) (pv 0) (pv 1) (fun _ _=>rfl)))
   (aG (oR PassesOwn.never (xI (aCF (pv 3)))
    (aG (bV (nU PySem.F.plainAttrs_list PySem.F.slot_list_append PySem.F.type_list_append gM (pv 2) (aA (pv 3) aE)))
    (aL (aX (i:=3) oO.nd rfl (Or.inl rfl) (tX (pC hr) (pv 0) (bO eA (pv 3) aH (fun _ _=>rfl)) (fun _ _=>rfl))))))
   (aL (bA (aDa (pv 2) (rP mV aH))))))),?_⟩
  have Tl:=T.len
  have hnsz:n.toNat < sizeLine:=by rw [sizeLine_eq]; omega
  refine ⟨eM (show 0<=1000 by decide),fun sm hsm=>?_⟩
  have s1:=aF.new (o:=.lst []) hsm
  have e1:upd H sm (.lst []) sm=some (.lst []):=aC
  generalize upd H sm (.lst [])=H1 at s1 e1 ⊢
  -- what stands at a found hand
  have vals:∀ (j:Nat) (t:Int),os[j]?=some t->∃ v,cW fs (.inl t)=some v/\((j=0/\v=.non)∨∃ p w g i,0 < j/\v=.ref p/\H p=some (.tup [.int (w:Nat),.int g,.int t])/\jM ws hs g w t/\i < j/\os[i]?=some g):=fun j t ht=>by
   by_cases hj:j=0
   ·subst hj
    rw [T.head] at ht
    cases ht
    exact ⟨_,T.v0,.inl ⟨rfl,rfl⟩⟩
   ·obtain ⟨p,w,g,i,a,b,c,d,e⟩:=T.par j t (by omega) ht
    exact ⟨_,a,.inr ⟨p,w,g,i,by omega,rfl,b,c,d,e⟩⟩
  obtain ⟨v0,hv0,_⟩:=vals jl last hjl
  refine ⟨_,rfl,_,rfl,fdp,v0,rfl,.inl ⟨fs,.inl last,.inl (s1 _ _ hfd),rfl,hv0.symm⟩,?_⟩
  refine ⟨fun m σ H2=>∃ (j:Nat) (t:Int) (v:V) (rps:List Addr) (ss:List (Nat×Int×Int)),m=j/\σ = [some (.ref fdp),some (.int last),some (.ref sm),some v]/\os[j]?=some t/\cW fs (.inl t)=some v/\aF H H2/\H2 sm=some (.lst (rps.map V.ref))/\StepsAt H2 rps.reverse ss/\eU ws hs t ss last/\(t::ss.map (·.2.2)).Nodup /\
    (∀ x∈ss.map (·.2.2),∃ i:Nat,j < i/\os[i]?=some x)/\rps.length+j<=jl/\(j < jl->ss≠[]),
   ⟨jl,jl,last,v0,[],[],rfl,rfl,hjl,hv0,s1,e1,StepsAt.nil,rfl,by simp,fun x h=>by simp at h,by simp,fun h=>by omega⟩,?_⟩
  rintro j σ H2 ⟨_,t,v,rps,ss,rfl,rfl,hj,hv,s2,e2,S2,P2,N2,I2,L2',L3⟩
  have hjo:jl < os.length:=(Qc.mp hjl).1
  obtain ⟨v',hv',cs⟩:=vals j t hj
  rw [hv] at hv'
  cases hv'
  rcases cs with ⟨rfl,rfl⟩ | ⟨p,w,g,i,hj0,rfl,hp,hE,hij,hg⟩
  ·refine ⟨_,rfl,_,rfl,?_⟩
   refine eQ ?_
   rw [T.head] at hj
   cases hj
   refine ⟨_,rfl,_,rfl,rfl,sm,_,rfl,SqL.of e2,fun p hp=>?_⟩
   have s3:=aF.new (o:=.lst (rps.map V.ref).reverse) hp
   refine k p _ rps.reverse ss (s2.trans s3) (s2.free hp) (by rw [aC,List.map_reverse]) (S2.tp (Tp.of s3)) P2 N2 (fun x hx=>?_) L3
   obtain ⟨i,_,hi⟩:=I2 _ (Jl.mpr ⟨x,hx,rfl⟩)
   exact Qj hi
  ·refine ⟨_,rfl,_,rfl,?_⟩
   refine eD ?_
   obtain ⟨vg,hvg,_⟩:=vals i g hg
   refine ⟨fun σ' H'=>∃ m',m' < j/\∃ (j:Nat) (t:Int) (v:V) (rps:List Addr) (ss:List (Nat×Int×Int)),m'=j/\σ' = [some (.ref fdp),some (.int last),some (.ref sm),some v]/\os[j]?=some t/\cW fs (.inl t)=some v/\aF H H'/\H' sm=some (.lst (rps.map V.ref))/\StepsAt H' rps.reverse ss/\eU ws hs t ss last/\(t::ss.map (·.2.2)).Nodup /\
    (∀ x∈ss.map (·.2.2),∃ i:Nat,j < i/\os[i]?=some x)/\rps.length+j<=jl/\(j < jl->ss≠[]),fun σ' H' z=>z,?_⟩
   have hsz:(rps.map V.ref).length < sizeLine:=by
    rw [Qb]
    exact Zw (Qx (Qx (Xo _ _) L2') (Qx (Xu hjo) Tl)) hnsz
   refine ⟨_,rfl,.inl ⟨rfl,_,SqL.of e2⟩,_,rfl,sm,_,.ref p,rfl,rfl,e2,hsz,?_⟩
   have s3:aF H (upd H2 sm (.lst (rps.map V.ref++[.ref p]))):=s2.wr hsm
   have e3:upd H2 sm (.lst (rps.map V.ref++[.ref p])) sm=_:=aC
   have S3:=S2.tp (Tp.upd (a:=sm) (u:=.lst (rps.map V.ref++[.ref p])) fun xs z=>by rw [e2] at z; cases z)
   generalize upd H2 sm (.lst (rps.map V.ref++[.ref p]))=H3 at s3 e3 S3 ⊢
   have hp3:=s3 _ _ hp
   refine ⟨_,rfl,_,rfl,p,_,1,.int g,rfl,rfl,SqT.of hp3,rfl,fdp,vg,rfl,.inl ⟨fs,.inl g,.inl (s3 _ _ hfd),rfl,hvg.symm⟩,?_⟩
   refine ⟨i,hij,i,g,vg,rps++[p],(w,g,t)::ss,rfl,rfl,hg,hvg,s3,by rw [Qy]; exact e3,?_,⟨rfl,hE,P2⟩,?_,?_,?_,fun _=>by simp⟩
   ·rw [List.reverse_append]
    exact S3.cons hp3
   ·show (g::t::ss.map (·.2.2)).Nodup
    rw [Xh]
    refine ⟨fun hm=>?_,N2⟩
    have inj:∀ i',i < i'->os[i']?=some g->False:=fun i' h1 h2=>by
     have:=(Ye (Qc.mp hg).1 T.nd).mp (hg.trans h2.symm)
     omega
    rcases Qk.mp hm with e | hm
    ·exact inj j hij (by rw [e]; exact hj)
    ·obtain ⟨i',h1,h2⟩:=I2 g hm
     exact inj i' (by omega) h2
   ·intro x hx
    rcases Qk.mp (show x∈t::ss.map (·.2.2) from hx) with rfl | hx
    ·exact ⟨j,hij,hj⟩
    ·obtain ⟨i',h1,h2⟩:=I2 x hx
     exact ⟨i',by omega,h2⟩
   ·rw [Qs]
    show rps.length+1+i<=jl
    omega
end
end Ab
namespace Ab
theorem qO:∀ {h x:Int} {ss:List (Nat×Int×Int)},eU ws hs h ss x->ss.map (·.2.1)++[x]=h::ss.map (·.2.2)
 | _,_,[],e=>by cases e; rfl
 | _,_,s::r,⟨e1,_,e3⟩=>by rw [Qu,Yh,qO e3,e1]; rfl
section
variable {ws:List (List Int)}
def gX (hs:List Int) (ss:List (Nat×Int×Int)):List Int:=ss.foldl (fun h s=>h.set s.1 s.2.2) hs
theorem nM:∀ (ss:List (Nat×Int×Int)) (hs:List Int),(gX hs ss).length=hs.length
 | [],_=>rfl
 | s::r,hs=>by show (gX (hs.set s.1 s.2.2) r).length=_; rw [nM r,Zh]
theorem qP:∀ (hs:List Int) (w:Nat) (g t c:Int),hs[w]?=some g->(((hs.set w t).count c:Nat):Int)=((hs.count c:Nat):Int) - (if c=g then 1 else 0)+(if c=t then 1 else 0)
 | [],w,g,t,c,h=>by simp at h
 | a::r,0,g,t,c,h=>by
  have e:a=g:=by simpa using h
  subst e
  rw [List.set_cons_zero,Js,Js]
  by_cases h1:c=a <;> by_cases h2:c=t
  ·subst h1; subst h2; simp
  ·subst h1; have:(t==c)=false:=by simpa using fun z=>h2 z.symm
   simp [h2,this]
  ·subst h2; have:(a==c)=false:=by simpa using fun z=>h1 z.symm
   simp [h1,this]
  ·have e1:(a==c)=false:=by simpa using fun z=>h1 z.symm
   have e2:(t==c)=false:=by simpa using fun z=>h2 z.symm
   simp [h1,h2,e1,e2]
 | a::r,w+1,g,t,c,h=>by
  have ih:=qP r w g t c (by simpa using h)
  rw [List.set_cons_succ,Js,Js]
  omega
theorem wV {hs:List Int} {w:Nat} {g u:Int} (hg:hs[w]?=some g):∀ {h x:Int} {r:List (Nat×Int×Int)},eU ws hs h r x->(∀ s∈r,s.2.1≠g)->eU ws (hs.set w u) h r x
 | _,_,[],e,_=>e
 | h,_,s::r,⟨e1,⟨e2,e3⟩,e4⟩,hn=>by
  refine ⟨e1,⟨?_,e3⟩,wV hg e4 fun s' hs'=>hn s' (Qm _ hs')⟩
  have hne:w≠s.1:=fun z=>by
   subst z
   rw [hg] at e2
   exact hn s (Qo ..) (e1.trans (Option.some.inj e2).symm)
  rw [Zd hne]
  exact e2
theorem wW {hs:List Int} {h x:Int} {ss:List (Nat×Int×Int)} (hp:eU ws hs h ss x):∀ s∈ss,s.2.1∈h::ss.map (·.2.2):=fun s hs'=>by
 rw [<- qO hp]
 exact Jq _ (Jl.mpr ⟨s,hs',rfl⟩)
theorem qQ:∀ (ss:List (Nat×Int×Int)) {hs:List Int} {h x:Int},eU ws hs h ss x->(h::ss.map (·.2.2)).Nodup->∀ c:Int,(((gX hs ss).count c:Nat):Int)=((hs.count c:Nat):Int) - (if c=h then 1 else 0)+(if c=x then 1 else 0)
 | [],hs,h,x,hp,_,c=>by
  have e:h=x:=hp
  subst e
  show ((hs.count c:Nat):Int)=_
  omega
 | s::r,hs,h,x,⟨e1,e2,e3⟩,hn,c=>by
  rw [Qu,Xh] at hn
  have h1:=wV (u:=s.2.2) e2.1 e3 fun s' hs' z=>hn.1 (by rw [<- z]; exact wW e3 s' hs')
  have ih:=qQ r h1 hn.2 c
  have e:=qP hs s.1 h s.2.2 c e2.1
  show (((gX (hs.set s.1 s.2.2) r).count c:Nat):Int)=_
  omega
def wX (n:Int) (ws:List (List Int)):List Int->List (List (Nat×Int×Int))->List Int->Prop
 | hs,[],he=>hs=he
 | hs,ss::r,he=>aDT n ws hs ss/\wX n ws (gX hs ss) r he
theorem wX.snoc {n:Int}:∀ {hs:List Int} {W:List (List (Nat×Int×Int))} {hc:List Int} {ss:List (Nat×Int×Int)},wX n ws hs W hc->aDT n ws hc ss->wX n ws hs (W++[ss]) (gX hc ss)
 | _,[],_,_,e,w=>by cases e; exact ⟨w,rfl⟩
 | _,_::_,_,_,⟨a,b⟩,w=>⟨a,wX.snoc b w⟩
end
end Ab
namespace Ab
open PySem L2
theorem jH:∀ (a b:List Int),bU (a++b)=bU a+bU b
 | [],b=>by rw [Xy,show bU ([]:List Int)=0 from rfl,Wa]
 | x::a,b=>by
  show x+bU (a++b)=x+bU a+bU b
  rw [jH a b]; omega
theorem oA {α:Type} {f g:α->Int} {l:List α} (h:∀ x∈l,f x=g x):bU (l.map f)=bU (l.map g):=by
 rw [Zs h]
theorem sR {α:Type} (f g:α->Int):∀ (l:List α),bU (l.map fun x=>f x+g x)=bU (l.map f)+bU (l.map g)
 | []=>rfl
 | x::l=>by
  show f x+g x+bU (l.map fun x=>f x+g x)=f x+bU (l.map f)+(g x+bU (l.map g))
  rw [sR f g l]; omega
theorem lW {α:Type} {f:α->Int}:∀ {l:List α},(∀ x∈l,f x=0)->bU (l.map f)=0
 | [],_=>rfl
 | x::l,h=>by
  show f x+bU (l.map f)=0
  rw [h x (Qo ..),lW fun y hy=>h y (Qm _ hy)]; rfl
def ex (t:Int) (l:List Int):Int:=bU (l.map fun x=>max (x - t) 0)
def inS (p:Int->Bool) (hs:List Int):Int:=bU (hs.map fun h=>if p h then 1 else 0)
theorem aDs {m:Nat} {h:Int} (p:Int->Bool) (h0:0<=h) (h1:h < m):bU ((cV m).map fun i=>if p i then (if h=i then 1 else 0) else 0)=if p h then 1 else 0:=by
 induction m with
 | zero=>omega
 | succ m ih =>
  have e:cV (m+1)=cV m++[(m:Int)]:=by unfold cV; rw [List.range_succ,Qy]; rfl
  rw [e,Qy,jH]
  show _+((if p (m:Int) then (if h=(m:Int) then (1:Int) else 0) else 0)+0)=_
  by_cases hm:h=(m:Int)
  ·rw [lW (l:=cV m) (f:=fun i=>if p i then (if h=i then 1 else 0) else 0) fun x hx=>by
    unfold cV at hx
    obtain ⟨i,hi,rfl⟩:=Jl.mp hx
    have hi':=Xf.mp hi
    rw [if_neg (show ¬ h=((i:Nat):Int) by omega)]
    split <;> rfl]
   rw [if_pos hm,hm]
   omega
  ·rw [ih (by omega),if_neg hm]
   have:(if p (m:Int)=true then (0:Int) else 0)=0:=by split <;> rfl
   rw [this]
   omega
theorem sS {n:Int} (p:Int->Bool):∀ {hs:List Int},(∀ h∈hs,0<=h/\h < n)->bU ((cV n.toNat).map fun h=>if p h then ((hs.count h:Nat):Int) else 0)=inS p hs
 | [],_=>by
  show _=(0:Int)
  exact lW fun x _=>by
   rw [List.count_nil]
   split <;> rfl
 | h::hs,hh=>by
  have ih:=sS (n:=n) p (hs:=hs) fun x hx=>hh x (Qm _ hx)
  have hb:=hh h (Qo ..)
  have e1:=aDs (m:=n.toNat) p hb.1 (by omega)
  show _=(if p h then (1:Int) else 0)+inS p hs
  rw [<- ih,<- e1,<- sR]
  refine oA fun i _=>?_
  rw [Js]
  by_cases hp:p i=true
  ·rw [if_pos hp,if_pos hp,if_pos hp]
   by_cases hi:h=i
   ·rw [if_pos hi,if_pos (by rw [hi]; simp)]; omega
   ·rw [if_neg hi,if_neg (by simpa using hi)]; omega
  ·rw [if_neg hp,if_neg hp,if_neg hp]; rfl
theorem uN {l:List Int} {i:Nat} {v:V} (h:(l.map V.int)[i]?=some v):∃ x,l[i]?=some x/\V.int x=v:=by
 rw [Qh] at h
 cases q:l[i]? with
 | none=>rw [q] at h; cases h
 | some x=>rw [q] at h; exact ⟨x,rfl,Option.some.inj h⟩
section
variable {P:Program} {w:World} {K:PySem.W.Frag} {mg:Str->Option Value} {base:Heap}
variable {fW fH fK fB fNB:Addr} {dW dH dK dB dNB:FuncData}
def wY (K:PySem.W.Frag):Sp:=fun vs H Q _=>∃ (p q:Addr) (la ls:List Int),vs = [.ref p,.ref q]/\SqT K H p (la.map V.int)/\SqT K H q (ls.map V.int)/\la.length<=1000/\∀ H',aF H H'->Q (.bl (la.all fun h=>ls.any (·==h))) H'
theorem aCf:FnScope ["able", "some"] ["able", "some"] (aO kX):=⟨rfl,rfl,rfl,by decide +kernel,rfl,by decide +kernel,by decide +kernel⟩
theorem aA0 {f:Addr} {fd:FuncData} (G:Fn K mg "is_within" kX ["able", "some"] f fd) (B:Bl mg):FnOk P w K mg base CX0 1 f fd ["able", "some"] (wY K):=by
 refine G.fn.ok aCf (fun vs H Q E h=>?_) (fun cdv A outer s H vs Q E hr h=>?_)
 ·obtain ⟨p,q,la,ls,rfl,_⟩:=h
  rfl
 ·obtain ⟨p,q,la,ls,rfl,hp,hq,hl,k⟩:=h
  refine ⟨_,(aL (bA (aT (jY rfl) rfl B.all wJ (aA (dX (own:=["hand"]) (fr:=[1]) (frn:=["some"]) (bT (aO kX) ["able", "some"] rfl rfl (by decide +kernel)) rfl (iC (pv 0))
    (fun _ _ _ _=>(aS (i:=0) (show (["hand", "some"]:List Str).Nodup by decide +kernel) rfl (Or.inl rfl))) (fun _ _ _ _=>iE)
    (fun _ _ _ _=>(tJ (yI (K:=K) rfl) (pv 0) (pv 1) (by with_unfolding_all rfl)))) aE)))),?_⟩
  refine ⟨_,rfl,p,rfl,⟨_,hp⟩,kE (K:=K) (a:=p) (xs:=la.map V.int) (vs:=(la.map fun h=>ls.any (·==h)).map V.bl) (fun σ=>∃ v,σ = [v,some (.ref q)]) (by rw [Qb]; exact hl) (by rw [Qb,Qb,Qb]) hp ⟨none,rfl⟩ ?_ ?_⟩
  ·rintro i xv v σ H1 hx hv ⟨v0,rfl⟩ s1 Q' hQ'
   obtain ⟨h,hh,rfl⟩:=uN hx
   have ev:v=V.bl (ls.any (·==h)):=by
    rw [Qh,Qh,hh] at hv
    exact (Option.some.inj hv).symm
   refine ⟨_,rfl,_,rfl,q,_,rfl,.inr (s1.seqT hq),rfl,sM _,?_⟩
   rw [uI]
   rw [ev] at hQ'
   exact hQ' _ _ ⟨_,rfl⟩ (aF.refl _)
  ·rintro H1 s1 z hz
   refine ⟨z,_,rfl,SqL.of aC,?_⟩
   rw [Zy]
   exact k _ (s1.trans (aF.new hz))
def gL (n:Int) (rs:List Int):Prop:=rs.length=n.toNat/\∀ r∈rs,0<=r/\r<=12
def aAl (K:PySem.W.Frag):Sp:=fun vs H Q _=>∃ (x:V) (q:Addr) (n:Int) (ws:List (List Int)) (rs:List Int),vs = [x,.ref q]/\Den K H (bY n ws) x/\bN (bY n ws)=true/\SqT K H q (rs.map V.int)/\gL n rs/\∀ H',aF H H'->Q (.bl true) H'
theorem uO:FnScope ["book", "thing"] ["book", "thing"] (aO fP):=⟨rfl,rfl,rfl,by decide +kernel,rfl,by decide +kernel,by decide +kernel⟩
theorem aCg {f:Addr} {fd:FuncData} (G:Fn K mg "are_rooms" fP ["book", "thing"] f fd) (B:Bl mg) (R:Pr K mg fW fH fK fB fNB dW dH dK dB dNB):FnOk P w K mg base CX0 5 f fd ["book", "thing"] (aAl K):=by
 have ONB:FnOk P w K mg base CX0 4 fNB dNB ["book"] (oM K):=qI B R
 have OW:FnOk P w K mg base CX0 1 fW dW ["thing"] (jC K):=iP R.W B
 refine G.fn.ok uO (fun vs H Q E h=>?_) (fun cdv A outer s H vs Q E hr h=>?_)
 ·obtain ⟨x,q,n,ws,rs,rfl,_⟩:=h
  rfl
 ·obtain ⟨x,q,n,ws,rs,rfl,hx,hb,hq,⟨hlen,hr12⟩,k⟩:=h
  obtain ⟨t12,h12⟩:=B.mr
  have r4:Room 4 _:=hr
  have r1:Room 1 _:=hr.mono (by decide)
  refine ⟨_,(aG (bV (bI R.NB ONB r4 rfl (aA (pv 0) aE)))
  (aG (bW (PW.pt (iI (dZ (cZ (aT cS rfl B.isinstance lK (aA (pv 1) (aA (gI (v:=.ty "tuple") rfl B.tuple cP rfl) aE))))) (gE (aW lE (aT bC rfl B.len gD (aA (pv 1) aE)) (bO eA (pv 0) aH (fun _ _=>rfl)) (bD _)))))
   (aL (bA eX))
   bH)
  (aL (bA (aT (jY rfl) rfl B.all wJ (aA (dX (own:=["room"]) (fr:=[]) (frn:=[]) (bT (aO fP) ["book", "thing"] rfl rfl (by decide +kernel)) rfl (iC (pv 1))
    (fun _ _ _ _=>(aS (i:=0) (show (["room"]:List Str).Nodup by decide +kernel) rfl (Or.inl rfl))) (fun _ _ _ _=>iE)
    (fun _ _ _ _=>(tE (bI R.W OW r1 rfl (aA (pv 0) aE)) (tD (oW nR nR aH (pv 0) (lY (v:=.int 12) rfl h12 ⟨t12,rfl⟩)))))) aE)))))),?_⟩
  obtain ⟨hn1,hn6,hw12,hws⟩:=cK hb
  refine ⟨_,rfl,x,_,rfl,hx,hb,fun H1 s1=>?_⟩
  obtain ⟨a,b,ys,rfl,ha,hb2,hys⟩:=eJ (s1.den _ _ hx)
  have hq1:=s1.seqT hq
  refine ⟨_,rfl,.ref q,.tup,rfl,.inr (.inl ⟨rfl,_,hq1⟩),_,rfl,?_⟩
  refine eQ ?_
  refine ⟨_,rfl,q,_,rfl,.inr hq1,_,rfl,a,_,0,.int n,rfl,rfl,ha,rfl,rfl,_,rfl,?_⟩
  have el:decide (V.int ((rs.map V.int).length:Nat)=V.int n)=true:=decide_eq_true (by rw [Qb,hlen]; congr 1; omega)
  rw [el]
  refine eQ ?_
  refine ⟨_,rfl,q,rfl,⟨_,hq1⟩,kE (K:=K) (a:=q) (xs:=rs.map V.int) (vs:=(List.replicate rs.length true).map V.bl) (fun σ=>∃ v,σ = [v]) (by rw [Qb]; omega) (by rw [Qb,Jw,Qb]) hq1 ⟨none,rfl⟩ ?_ ?_⟩
  ·rintro i xv v σ H2 hxv hv ⟨v0,rfl⟩ s2 Q' hQ'
   obtain ⟨r,hr',rfl⟩:=uN hxv
   obtain ⟨r0,r12⟩:=hr12 r (Qj hr')
   have ev:v=.bl true:=by
    obtain ⟨b,hb,rfl⟩:∃ b,b∈List.replicate rs.length true/\V.bl b=v:=Jl.mp (Qj hv)
    rw [Xt hb]
   subst ev
   refine ⟨_,rfl,_,.int r,rfl,bQ.mpr rfl,_,rfl,?_⟩
   refine eD ?_
   refine ⟨_,rfl,_,_,rfl,rfl,_,rfl,?_⟩
   rw [decide_eq_true r0]
   refine eD ?_
   refine ⟨_,_,rfl,rfl,?_⟩
   have e12:decide (r<=12)=true:=decide_eq_true r12
   dsimp only
   rw [e12]
   exact hQ' _ _ ⟨_,rfl⟩ (aF.refl _)
  ·rintro H2 s2 z hz
   refine ⟨z,_,rfl,SqL.of aC,?_⟩
   rw [show (List.replicate rs.length true).all id=true by simp]
   exact k _ ((s1.trans s2).trans (aF.new hz))
def mP (K:PySem.W.Frag):Sp:=fun vs H Q _=>∃ (x:V) (q:Addr) (n:Int) (ws:List (List Int)) (rs:List Int),vs = [x,.ref q]/\Den K H (bY n ws) x/\bN (bY n ws)=true/\SqT K H q (rs.map V.int)/\gL n rs/\∀ H',aF H H'->Q .non H'
theorem aAm:FnScope ["book", "rooms"] ["book", "rooms"] (aO gU):=⟨rfl,rfl,rfl,by decide +kernel,rfl,by decide +kernel,by decide +kernel⟩
theorem wZ {f fA:Addr} {fd dA:FuncData} (G:Fn K mg "need_rooms" gU ["book", "rooms"] f fd) (B:Bl mg) (R:Pr K mg fW fH fK fB fNB dW dH dK dB dNB) (GAr:Fn K mg "are_rooms" fP ["book", "thing"] fA dA):FnOk P w K mg base CX0 6 f fd ["book", "rooms"] (mP K):=by
 have OAr:FnOk P w K mg base CX0 5 fA dA ["book", "thing"] (aAl K):=aCg GAr B R
 refine G.fn.ok aAm (fun vs H Q E h=>?_) (fun cdv A outer s H vs Q E hr h=>?_)
 ·obtain ⟨x,q,n,ws,rs,rfl,_⟩:=h
  rfl
 ·obtain ⟨x,q,n,ws,rs,rfl,hx,hb,hq,hro,k⟩:=h
  refine ⟨_,aL (bW (dZ (cZ (bI GAr OAr hr rfl (aA (pv 0) (aA (pv 1) aE))))) fX bH),?_⟩
  refine ⟨_,rfl,_,rfl,x,q,n,ws,rs,rfl,hx,hb,hq,hro,fun H' s'=>⟨_,rfl,?_⟩⟩
  refine eQ ?_
  exact k H' s'
theorem aCh {tA tB:TT} {σ:St} {H:Hp} {Q:Bool->Hp->Prop} (a b:Bool) (hA:∀ R:Bool->Hp->Prop,(∀ H2,aF H H2->R a H2)->tA σ H R) (hB:∀ H2,aF H H2->a=true->∀ R:Bool->Hp->Prop,(∀ H3,aF H2 H3->R b H3)->tB σ H2 R) (h:∀ H3,aF H H3->Q (a && b) H3):aCG tA tB σ H Q:=by
 refine hA _ fun H2 s2=>?_
 cases a with
 | false=>exact eQ (h H2 s2)
 | true=>exact eD (hB H2 s2 rfl _ fun H3 s3=>h H3 (s2.trans s3))
theorem oB {n:Int} {rs:List Int} (h:gL n rs) (x:Int):0<=rs.getD x.toNat 0/\rs.getD x.toNat 0 < 1000000:=by
 rw [Jp]
 cases q:rs[x.toNat]? with
 | none=>exact ⟨Wc _,by decide⟩
 | some r=>have:=h.2 r (Qj q); exact ⟨this.1,by show r < 1000000; omega⟩
def xA (ws:List (List Int)) (rs ls:List Int):Int:=(((ws.filter fun l=>l.all fun h=>ls.any (·==h)).length:Nat):Int) - bU (ls.map fun h=>rs.getD h.toNat 0)
def qR (n:Int) (ws:List (List Int)) (rs ls:List Int) (m:Int):Bool:=(ls.isEmpty || bS n (cT ls)) && decide (m<=xA ws rs ls)
def aAn (K:PySem.W.Frag):Sp:=fun vs H Q _=>∃ (x:V) (q p:Addr) (n:Int) (ws:List (List Int)) (rs ls:List Int) (m:Int),vs = [x,.ref q,.ref p,.int m]/\Den K H (bY n ws) x/\bN (bY n ws)=true/\SqT K H q (rs.map V.int)/\gL n rs/\SqT K H p (ls.map V.int)/\ls.length<=20/\∀ H',aF H H'->Q (.bl (qR n ws rs ls m)) H'
theorem uP:FnScope ["book", "rooms", "some", "number", "alone"] ["book", "rooms", "some", "number"] (aO lT):=⟨rfl,rfl,rfl,by decide +kernel,rfl,by decide +kernel,by decide +kernel⟩
theorem aCi {f fN fI:Addr} {fd dN dI:FuncData} (G:Fn K mg "do_bar" lT ["book", "rooms", "some", "number"] f fd) (B:Bl mg) (R:Pr K mg fW fH fK fB fNB dW dH dK dB dNB) (GNr:Fn K mg "need_rooms" gU ["book", "rooms"] fN dN) (ONr:FnOk P w K mg base CX0 6 fN dN ["book", "rooms"] (mP K)) (GWi:Fn K mg "is_within" kX ["able", "some"] fI dI):FnOk P w K mg base CX0 7 f fd ["book", "rooms", "some", "number"] (aAn K):=by
 have OW:FnOk P w K mg base CX0 1 fW dW ["thing"] (jC K):=iP R.W B
 have OKw:FnOk P w K mg base CX0 2 fK dK ["hands", "thing"] (uE K):=wO R.Kw B R.W
 have OWi:FnOk P w K mg base CX0 1 fI dI ["able", "some"] (wY K):=aA0 GWi B
 refine G.fn.ok uP (fun vs H Q E h=>?_) (fun cdv A outer s H vs Q E hr h=>?_)
 ·obtain ⟨x,q,p,n,ws,rs,ls,m,rfl,_⟩:=h
  rfl
 ·obtain ⟨x,q,p,n,ws,rs,ls,m,rfl,hx,hb,hq,hro,hp,hl20,k⟩:=h
  have r6:Room 6 _:=hr
  have r2:Room 2 _:=hr.mono (by decide)
  have r1:Room 1 _:=hr.mono (by decide)
  refine ⟨_,(aG (bV (bI GNr ONr r6 rfl (aA (pv 0) (aA (pv 1) aE))))
  (aG (bW (PW.pt (iI (dZ (cZ (bI R.W OW r1 rfl (aA (pv 3) aE)))) (gE (PW.pt (mU (aW (aBu hr.u64) (pv 2) (eY aE) (bD _)) (kQ (dZ (cZ (bI R.Kw OKw r2 rfl (aA (bO eA (pv 0) aH (fun _ _=>rfl)) (aA (pv 2) aE)))))))))))
   (aL (bA eX))
   bH)
  (aG (aX (i:=4) uP.nd rfl (Or.inl rfl) (aT bC rfl B.len gD (aA (dX (own:=["able"]) (fr:=[2]) (frn:=["some"]) (bT (aO lT) ["book", "rooms", "some", "number", "alone"] rfl rfl (by decide +kernel)) rfl (iC (bO eA (pv 0) aH (fun _ _=>rfl)))
    (fun _ _ _ _=>(aS (i:=0) (show (["able", "some"]:List Str).Nodup by decide +kernel) rfl (Or.inl rfl))) (fun _ _ _ _=>pD (cZ (bI GWi OWi r1 rfl (aA (pv 0) (aA (pv 1) aE)))))
    (fun _ _ _ _=>(pv 0))) aE)))
  (aL (bA (tJ zH (bB xL (pv 4) (aT (aBt rfl) rfl B.sum aFx (aA (dX (own:=["hand"]) (fr:=[1]) (frn:=["rooms"]) (bT (aO lT) ["book", "rooms", "some", "number", "alone"] rfl rfl (by decide +kernel)) rfl (iC (pv 2))
    (fun _ _ _ _=>(aS (i:=0) (show (["hand", "rooms"]:List Str).Nodup by decide +kernel) rfl (Or.inl rfl))) (fun _ _ _ _=>iE)
    (fun _ _ _ _=>(bO (jE (K:=K) rfl) (pv 1) (pv 0) (fun _ _=>rfl)))) aE))) (pv 3) (bD _))))))),?_⟩
  obtain ⟨hn1,hn6,hw12,hws⟩:=cK hb
  refine ⟨_,rfl,_,rfl,x,q,n,ws,rs,rfl,hx,hb,hq,hro,fun H1 s1=>?_⟩
  obtain ⟨a,b,ys,rfl,ha,hb2,hys⟩:=eJ (s1.den _ _ hx)
  have hlw:=aN hys
  rw [Qb] at hlw
  have hp1:=s1.seqT hp
  have hq1:=s1.seqT hq
  refine ⟨_,rfl,.int m,.int m,rfl,bQ.mpr rfl,_,rfl,?_⟩
  refine eQ ?_
  refine aCh (!ls.isEmpty) (!bS n (cT ls)) (fun R hR=>?_) (fun H2 s2 _ R hR=>?_) (fun H3 s3=>?_)
  ·refine ⟨_,rfl,eM (Jm _),fun z hz=>⟨.tuple (ls.map .int),.tuple (([]:List Int).map .int),cM.mpr ⟨p,rfl,(aF.new hz).seqT hp1⟩,cM.mpr ⟨z,rfl,SqT.of aC⟩,mO _,mO _,mM _,mM _,_,rfl,?_⟩⟩
   rw [aAZ,show decide (ls = [])=ls.isEmpty by cases ls <;> rfl]
   exact hR _ (aF.new hz)
  ·exact ⟨_,rfl,a,_,0,.int n,rfl,rfl,s2.seqT ha,rfl,_,rfl,n,.ref p,cT ls,rfl,cM.mpr ⟨p,rfl,s2.seqT hp1⟩,_,rfl,hR _ (aF.refl _)⟩
  ·have hp3:=s3.seqT hp1
   have hq3:=s3.seqT hq1
   refine cR (fun c=>?_) (fun c=>?_)
   ·have e:qR n ws rs ls m=false:=by
     unfold qR
     simp only [Qv,Bool.not_eq_true'] at c
     rw [c.1,c.2]; rfl
    rw [e] at k
    exact k _ (s1.trans s3)
   have hok:(ls.isEmpty || bS n (cT ls))=true:=by
    cases h1:ls.isEmpty <;> cases h2:bS n (cT ls) <;> simp [h1,h2] at c ⊢
   have hin:∀ h∈ls,0<=h/\h < n:=fun h hh=>by
    rw [Yn] at hok
    rcases hok with z | z
    ·cases ls with
     | nil=>cases hh
     | cons _ _=>cases z
    ·exact (eT z).2.1 h hh
   refine ⟨_,rfl,a,_,1,.ref b,rfl,rfl,s3.seqT ha,rfl,b,rfl,⟨_,s3.seqT hb2⟩,vJ (K:=K) (a:=b) (xs:=ys) (fun σ=>∃ v,σ = [v,some (.ref p)]) (fun i zs H4=>aF H3 H4/\zs.length=((ws.take i).filter fun l=>l.all fun h=>ls.any (·==h)).length) (eM (by omega)) ⟨none,rfl⟩ ⟨aF.refl _,rfl⟩ ?_ ?_ ?_ ?_⟩
   ·rintro i zs H4 ⟨_,hz⟩
    rw [hz]
    exact Qx (Zb _ _) (by rw [Jd]; omega)
   ·rintro i zs H4 ⟨s4,_⟩
    exact (s3.trans s4).seqT hb2
   ·rintro i zs σ u H4 hu ⟨v0,rfl⟩ ⟨s4,hzl⟩ hz
    obtain ⟨dv,hdv,denv⟩:=cC hys hu
    rw [Qh] at hdv
    obtain ⟨l,hl,rfl⟩:∃ l,ws[i]?=some l/\cT l=dv:=by
     cases q:ws[i]? with
     | none=>rw [q] at hdv; cases hdv
     | some l=>rw [q] at hdv; exact ⟨l,rfl,Option.some.inj hdv⟩
    obtain ⟨aw,rfl,haw⟩:=cM.mp denv
    obtain ⟨w1,w2,w3⟩:=eT (hws l (Qj hl))
    have hl6:=jF (by omega) w2 w3
    have etake:ws.take (i+1)=ws.take i++[l]:=by rw [Jz,hl]; rfl
    refine ⟨_,rfl,_,rfl,aw,p,l,ls,rfl,(s3.trans s4).seqT haw,s4.seqT hp3,by omega,fun H5 s5=>⟨_,rfl,?_⟩⟩
    refine cR (fun c=>?_) (fun c=>?_)
    ·refine ⟨_,rfl,hz,⟨_,rfl⟩,s4.trans s5,?_⟩
     rw [etake,Jr,Qs,Qs,hzl]
     congr 1
     rw [Xl (p:=fun l:List Int=>l.all fun h=>ls.any (·==h)) (a:=l) (l:=[]) c]; rfl
    ·refine ⟨⟨_,rfl⟩,s4.trans s5,?_⟩
     rw [etake,Jr,Qs,hzl,Xm (p:=fun l:List Int=>l.all fun h=>ls.any (·==h)) (a:=l) (l:=[]) c]; rfl
   ·rintro zs H4 ⟨s4,hzl⟩ z hz
    rw [hlw,Xk] at hzl
    have s5:=s4.trans (aF.new (o:=.lst zs) hz)
    refine ⟨z,_,rfl,.inl (SqL.of aC),?_⟩
    rw [hzl]
    generalize upd H4 z (.lst zs)=H5 at s5 ⊢
    have hp5:=s5.seqT hp3
    have hq5:=s5.seqT hq3
    refine ⟨_,rfl,_,rfl,p,rfl,⟨_,hp5⟩,kE (K:=K) (a:=p) (xs:=ls.map V.int) (vs:=(ls.map fun h=>rs.getD h.toNat 0).map V.int) (fun σ=>∃ v,σ = [v,some (.ref q)]) (by rw [Qb]; omega) (by rw [Qb,Qb,Qb]) hp5 ⟨none,rfl⟩ ?_ ?_⟩
    ·rintro i xv v σ H6 hxv hv ⟨v0,rfl⟩ s6 Q' hQ'
     obtain ⟨h,hh,rfl⟩:=uN hxv
     obtain ⟨h0,h1⟩:=hin h (Qj hh)
     have ev:v=V.int (rs.getD h.toNat 0):=by
      rw [Qh,Qh,hh] at hv
      exact (Option.some.inj hv).symm
     have hlt:h.toNat < rs.length:=by rw [hro.1]; omega
     have hat:atI (rs.map V.int) h=some (.int (rs.getD h.toNat 0)):=by
      have e:=eZ (xs:=rs.map V.int) (j:=h.toNat) (v:=.int (rs.getD h.toNat 0)) (by rw [Qh,Jp,Qd hlt]; rfl)
      rwa [show ((h.toNat:Nat):Int)=h by omega] at e
     refine ⟨_,rfl,_,rfl,q,_,h,_,rfl,rfl,s6.seqT hq5,hat,?_⟩
     rw [ev] at hQ'
     exact hQ' _ _ ⟨_,rfl⟩ (aF.refl _)
    ·rintro H6 s6 z2 hz2
     refine ⟨z2,ls.map fun h=>rs.getD h.toNat 0,rfl,SqL.of aC,fun y hy=>?_,by rw [Qb]; omega,_,_,rfl,rfl,_,rfl,_,_,rfl,rfl,?_⟩
     ·obtain ⟨h,_,rfl⟩:=Jl.mp hy
      exact oB hro h
     ·have e:qR n ws rs ls m=decide (m<=xA ws rs ls):=by unfold qR; rw [hok,Xg]
      rw [e] at k
      exact k _ ((s1.trans s3).trans (s5.trans (s6.trans (aF.new hz2))))
def kK:PyData->List Int->Bool
 | .none,_=>true
 | .int i,l=>l.any (·==i)
 | _,_=>false
def sT:PyData->Option Int
 | .int i=>some i
 | _=>none
def aDU (os:List (Option Int)) (rs:List Int):Bool:=(List.range rs.length).all fun i=>decide (((os.count (some (i:Int)):Nat):Int)<=rs.getD i 0)
def kL (ws:List (List Int)) (rs:List Int):PyData->Bool
 | .tuple ds=>decide (ds.length=ws.length) && ((ds.zip ws).all (fun p=>kK p.1 p.2) && aDU (ds.map sT) rs)
 | _=>false
theorem aCj:∀ {K:PySem.W.Frag} {H:Hp} {ds:List PyData} {xs:List V},aU K H ds xs->(∀ d∈ds,d=.none∨∃ i,d=.int i)->xs=(ds.map sT).map oV
 | K,H,[],xs,h,_=>by rw [aV.mp h]; rfl
 | K,H,d::ds,xs,h,hd=>by
  obtain ⟨x,r,rfl,h1,h2⟩:=aP.mp h
  rw [aCj h2 fun e he=>hd e (Qm _ he)]
  rcases hd d (Qo ..) with rfl | ⟨i,rfl⟩
  ·rw [gR.mp h1]; rfl
  ·rw [bQ.mp h1]; rfl
def aDV (K:PySem.W.Frag):Sp:=fun vs H Q _=>∃ (x:V) (q:Addr) (y:V) (n:Int) (ws:List (List Int)) (rs:List Int) (d:PyData),vs = [x,.ref q,y]/\Den K H (bY n ws) x/\bN (bY n ws)=true/\SqT K H q (rs.map V.int)/\gL n rs/\Den K H d y/\∀ H',aF H H'->Q (.bl (kL ws rs d)) H'
theorem aAo:FnScope ["book", "rooms", "thing", "hand", "able"] ["book", "rooms", "thing"] (aO iO):=⟨rfl,rfl,rfl,by decide +kernel,rfl,by decide +kernel,by decide +kernel⟩
theorem aEH {f fN:Addr} {fd dN:FuncData} (G:Fn K mg "is_in_rooms" iO ["book", "rooms", "thing"] f fd) (B:Bl mg) (R:Pr K mg fW fH fK fB fNB dW dH dK dB dNB) (GNr:Fn K mg "need_rooms" gU ["book", "rooms"] fN dN) (ONr:FnOk P w K mg base CX0 6 fN dN ["book", "rooms"] (mP K)):FnOk P w K mg base CX0 7 f fd ["book", "rooms", "thing"] (aDV K):=by
 have OW:FnOk P w K mg base CX0 1 fW dW ["thing"] (jC K):=iP R.W B
 refine G.fn.ok aAo (fun vs H Q E h=>?_) (fun cdv A outer s H vs Q E hr h=>?_)
 ·obtain ⟨x,q,y,n,ws,rs,d,rfl,_⟩:=h
  rfl
 ·obtain ⟨x,q,y,n,ws,rs,d,rfl,hx,hb,hq,hro,hd,k⟩:=h
  have r6:Room 6 _:=hr
  have r1:Room 1 _:=hr.mono (by decide)
  refine ⟨_,(aG (bV (bI GNr ONr r6 rfl (aA (pv 0) (aA (pv 1) aE))))
  (aG (bW (PW.pt (iI (dZ (cZ (aT cS rfl B.isinstance lK (aA (pv 2) (aA (gI (v:=.ty "tuple") rfl B.tuple cP rfl) aE))))) (gE (aW lE (aT bC rfl B.len gD (aA (pv 2) aE)) (aT bC rfl B.len gD (aA (bO eA (pv 0) aH (fun _ _=>rfl)) aE)) (bD _)))))
   (aL (bA eX))
   bH)
  (aG (eP PassesOwn.never rfl (aEn .t .t rfl B.zip (aA (pv 2) (aA (bO eA (pv 0) aH (fun _ _=>rfl)) aE))) (jN rfl (bX (aS (i:=3) aAo.nd rfl (Or.inl rfl)) (bX (aS (i:=4) aAo.nd rfl (Or.inl rfl)) hG)))
   (aL (bW (PW.pt (mU (aW aCK (pv 3) iR (bD _)) (kQ (dZ (PW.pt (mU (cZ (bI R.W OW r1 rfl (aA (pv 3) aE))) (kQ (aW mX (pv 3) (pv 4) (by with_unfolding_all rfl)))))))))
   (aL (bA eX))
   bH)))
  (aL (bA (aT (jY rfl) rfl B.all wJ (aA (dX (own:=["hand", "room"]) (fr:=[2]) (frn:=["thing"]) (bT (aO iO) ["book", "rooms", "thing", "hand", "able"] rfl rfl (by decide +kernel)) rfl (aC8 .t rfl B.enumerate (aA (pv 1) aE))
    (fun _ _ _ _=>(aDm (K:=K) (n:=2) rfl rfl (bX (aS (i:=0) (show (["hand", "room", "thing"]:List Str).Nodup by decide +kernel) rfl (Or.inl rfl)) (bX (aS (i:=1) (show (["hand", "room", "thing"]:List Str).Nodup by decide +kernel) rfl (Or.inl rfl)) hG)))) (fun _ _ _ _=>iE)
    (fun _ _ _ _=>(tJ nR (uJ (K:=K) rfl PySem.F.plainAttrs_tuple PySem.F.slot_tuple_count PySem.F.type_tuple_count (yG (K:=K) rfl) (pv 2) (aA (pv 0) aE)) (pv 1) (bD _)))) aE))))))),?_⟩
  obtain ⟨hn1,hn6,hw12,hws⟩:=cK hb
  refine ⟨_,rfl,_,rfl,x,q,n,ws,rs,rfl,hx,hb,hq,hro,fun H1 s1=>?_⟩
  obtain ⟨a,b,ys,rfl,ha,hb2,hys⟩:=eJ (s1.den _ _ hx)
  have hlw:=aN hys
  rw [Qb] at hlw
  have hd1:=s1.den _ _ hd
  have hq1:=s1.seqT hq
  refine ⟨_,rfl,y,iU d,rfl,hd1.kd,_,rfl,?_⟩
  refine cR (fun c=>?_) (fun c=>?_)
  ·refine eD ?_
   have e:false=kL ws rs d:=by cases d <;> first | rfl | (exfalso; simp [iU] at c)
   rw [<- e] at k; exact k H1 s1
  obtain ⟨hs,rfl⟩:∃ hs,d=.tuple hs:=by cases d <;> first | exact ⟨_,rfl⟩ | (exfalso; simp [iU] at c)
  obtain ⟨a2,xs,rfl,ha2,hxs⟩:=bE.mp hd1
  have hlx:=aN hxs
  refine ⟨_,rfl,a2,xs,rfl,.inr ha2,_,rfl,a,_,1,.ref b,rfl,rfl,ha,rfl,b,ys,rfl,.inr hb2,rfl,_,rfl,?_⟩
  refine cR (fun c2=>?_) (fun c2=>?_)
  ·have e:kL ws rs (.tuple hs)=false:=by
    show (decide (hs.length=ws.length) && _)=false
    rw [decide_eq_false]
    ·rfl
    ·intro z
     have:(V.int (xs.length:Int)=V.int (ys.length:Int)):=by rw [hlx,hlw,z]
     simp [this] at c2
   rw [e] at k; exact k H1 s1
  have heq:xs.length=ys.length:=by
   have:V.int (xs.length:Int)=V.int (ys.length:Int):=by simpa using c2
   injection this with this
   omega
  have hfalse:∀ (i:Nat) du l,hs[i]?=some du->ws[i]?=some l->kK du l=false->kL ws rs (.tuple hs)=false:=fun i du l h1 h2 h3=>by
   have e:(hs.zip ws).all (fun p=>kK p.1 p.2)=false:=by
    rw [<- Bool.not_eq_true,Ja]
    intro z
    have:=z (du,l) (Qj (i:=i) (by rw [Xp]; exact ⟨h1,h2⟩))
    rw [h3] at this; cases this
   show (_ && (_ && _))=false
   rw [e,Xw,Zn]
  refine ⟨_,rfl,_,rfl,a,_,1,.ref b,rfl,rfl,ha,rfl,a2,b,_,_,rfl,ha2,hb2,aCZ (K:=K) (k1:=.t) (k2:=.t) (a:=a2) (b:=b) (xs:=xs) (ys:=ys) (fun i σ H3=>(∃ v3 v4,σ = [some (.ref a),some (.ref q),some (.ref a2),v3,v4])/\aF H1 H3/\∀ (j:Nat) du l,j < i->hs[j]?=some du->ws[j]?=some l->kK du l=true)
   heq ⟨⟨_,_,rfl⟩,aF.refl _,fun j _ _ hj=>absurd hj (Zv _)⟩ (fun i σ H3 _ ⟨_,s3,_⟩=>⟨s3.seqT ha2,s3.seqT hb2⟩) ?_ ?_⟩
  ·rintro i u v t σ H3 hu hv ⟨⟨v3,v4,rfl⟩,s3,hall⟩ ht
   obtain ⟨du,hdu,denu⟩:=cC hxs hu
   obtain ⟨dv,hdv,denv⟩:=cC hys hv
   rw [Qh] at hdv
   obtain ⟨l,hl,rfl⟩:∃ l,ws[i]?=some l/\cT l=dv:=by
    cases q:ws[i]? with
    | none=>rw [q] at hdv; cases hdv
    | some l=>rw [q] at hdv; exact ⟨l,rfl,Option.some.inj hdv⟩
   obtain ⟨aw,rfl,haw⟩:=cM.mp denv
   have s4:=s3.trans (aF.new (o:=.tup [u,.ref aw]) ht)
   have et:upd H3 t (.tup [u,.ref aw]) t=some (.tup [u,.ref aw]):=aC
   generalize upd H3 t (.tup [u,.ref aw])=H4 at s4 et ⊢
   have next:kK du l=true->∀ (j:Nat) du l,j < i+1->hs[j]?=some du->ws[j]?=some l->kK du l=true:=fun h j du' l' hj h1 h2=>by
    by_cases z:j=i
    ·subst z
     rw [hdu] at h1; rw [hl] at h2
     rw [<- Option.some.inj h1,<- Option.some.inj h2]; exact h
    ·exact hall j du' l' (by omega) h1 h2
   refine ⟨t,_,rfl,SqT.of et,rfl,_,_,rfl,_,_,rfl,rfl,?_⟩
   refine ⟨_,rfl,rfl,_,rfl,?_⟩
   by_cases hnon:du=.none
   ·subst hnon
    obtain rfl:=gR.mp denu
    refine eQ ?_
    refine eQ ?_
    exact ⟨⟨_,_,rfl⟩,s4,next rfl⟩
   ·have hun:u≠.non:=fun z=>by
     subst z
     cases du <;> first | exact hnon rfl | (simp [Den] at denu) | (cases denu)
    rw [decide_eq_false hun]
    refine eD ?_
    refine ⟨_,rfl,u,du,rfl,s4.den _ _ denu,_,rfl,?_⟩
    refine cR (fun c3=>?_) (fun c3=>?_)
    ·obtain ⟨j,rfl⟩:∃ j,du=.int j:=by cases du <;> first | exact ⟨_,rfl⟩ | (exfalso; simp [gA] at c3)
     obtain rfl:=bQ.mp denu
     refine ⟨_,rfl,_,rfl,aw,_,rfl,.inr (s4.seqT haw),rfl,sM l,_,rfl,?_⟩
     cases hany:l.any (·==j) with
     | true =>
      rw [(uI j l).trans hany]
      refine eQ ?_
      exact ⟨⟨_,_,rfl⟩,s4,next hany⟩
     | false =>
      rw [(uI j l).trans hany]
      refine eD ?_
      rw [hfalse i _ l hdu hl hany] at k
      exact k _ (s1.trans s4)
    ·have e:kK du l=false:=by cases du <;> first | rfl | exact absurd rfl hnon | (exfalso; simp [gA] at c3)
     refine eD ?_
     rw [hfalse i _ l hdu hl e] at k
     exact k _ (s1.trans s4)
  ·rintro σ H3 ⟨⟨v3,v4,rfl⟩,s3,hall⟩
   have hlen:hs.length=ws.length:=by omega
   have each:∀ d∈hs,d=.none∨∃ i,d=.int i:=fun d hd=>by
    obtain ⟨j,hj⟩:=Ji.mp hd
    have hjl:=(Qc.mp hj).1
    have:=hall j d _ (by omega) hj (Qd (show j < ws.length by omega))
    cases d <;> first | exact .inl rfl | exact .inr ⟨_,rfl⟩ | cases this
   have exs:=aCj hxs each
   have hallT:(hs.zip ws).all (fun p=>kK p.1 p.2)=true:=by
    rw [Ja]
    intro p hp
    obtain ⟨j,hj⟩:=Ji.mp hp
    rw [Xp] at hj
    have hjl:=(Qc.mp hj.1).1
    exact hall j _ _ (by omega) hj.1 hj.2
   have ek:kL ws rs (.tuple hs)=aDU (hs.map sT) rs:=by
    show (decide (hs.length=ws.length) && (_ && _))=_
    rw [decide_eq_true hlen,hallT,Xg,Xg]
   rw [ek] at k
   refine ⟨_,rfl,q,_,rfl,s3.seqT hq1,aB3 (K:=K) (k:=.t) (a:=q) (xs:=rs.map V.int) (vs:=((List.range rs.length).map fun i=>decide ((((hs.map sT).count (some ((i:Nat):Int)):Nat):Int)<=rs.getD i 0)).map V.bl) (fun σ=>∃ v0 v1,σ = [v0,v1,some (.ref a2)]) (by rw [Qb,hro.1]; omega) (by rw [Qb,Qb,Zl,Qb]) (fun H' s'=>(s3.trans s').seqT hq1) ⟨none,none,rfl⟩ ?_ ?_⟩
   ·rintro i xv v t σ H5 hxv hv ht ⟨v0,v1,rfl⟩ s5 Q' hQ'
    obtain ⟨r,hr',rfl⟩:=uN hxv
    have hil:=(Qc.mp hr').1
    have er:rs.getD i 0=r:=by rw [Jp,hr']; rfl
    have ev:v=V.bl (decide ((((hs.map sT).count (some ((i:Nat):Int)):Nat):Int)<=r)):=by
     rw [Qh,Qh,Zu hil] at hv
     rw [<- er]
     exact (Option.some.inj hv).symm
    have sq:=((s3.trans s5).trans (aF.new (o:=.tup [.int (i:Nat),.int r]) ht)).seqT ha2
    have st:=aF.new (o:=.tup [.int (i:Nat),.int r]) ht
    rw [exs] at sq
    refine ⟨t,_,rfl,SqT.of aC,rfl,_,_,rfl,_,_,rfl,rfl,?_⟩
    refine ⟨_,rfl,.inr (.inl ⟨rfl,_,sq⟩),_,rfl,a2,hs.map sT,_,rfl,rfl,sq,_,rfl,_,_,rfl,rfl,?_⟩
    rw [ev] at hQ'
    exact hQ' _ _ ⟨_,_,rfl⟩ st
   ·rintro H5 s5 z hz
    refine ⟨z,_,rfl,SqL.of aC,?_⟩
    rw [Zy]
    exact k _ ((s1.trans s3).trans (s5.trans (aF.new hz)))
structure GoodN (K:PySem.W.Frag) (H:Hp) (x:V) (y:Addr) (n:Int) (ws:List (List Int)) (hs:List Int):Prop where
 bk:Den K H (bY n ws) x
 n1:1<=n
 n7:n<=7
 w12:ws.length<=12
 six:∀ l∈ws,l.length<=6
 sq:SqL K H y (hs.map V.int)
 ln:hs.length=ws.length
 rng:∀ h∈hs,0<=h/\h < n
theorem GoodN.len {H:Hp} {x:V} {y:Addr} {n:Int} {ws:List (List Int)} {hs:List Int} (g:GoodN K H x y n ws hs):hs.length<=12/\1<=n/\n<=7:=⟨by have:=g.ln; have:=g.w12; omega,g.n1,g.n7⟩
theorem GoodN.hand {H:Hp} {x:V} {y:Addr} {n:Int} {ws:List (List Int)} {hs:List Int} (g:GoodN K H x y n ws hs) {i:Nat} {h:Int} (e:hs[i]?=some h):0<=h/\h < n:=g.rng h (Qj e)
theorem GoodN.deal {H:Hp} {x:V} {y:Addr} {n:Int} {ws:List (List Int)} {hs:List Int} (g:GoodN K H x y n ws hs):hs.length=ws.length/\True:=⟨g.ln,trivial⟩
theorem gO:FnScope ["book", "deal", "rows", "work", "giver", "able", "taker"] ["book", "deal"] (aO iN):=⟨rfl,rfl,rfl,by decide +kernel,rfl,by decide +kernel,by decide +kernel⟩
def qS (K:PySem.W.Frag):Sp:=fun vs H Q _=>∃ x y n ws hs,vs = [x,.ref y]/\GoodN K H x y n ws hs/\∀ rp H' qs rs,aF H H'->H rp=none->(∀ q∈qs,H q=none)->Rows H' rp qs rs->rs.length=n.toNat->aAj (jM ws hs) rs 100->Q (.ref rp) H'
theorem xB {f:Addr} {fd:FuncData} (G:Fn K mg "handing" iN ["book", "deal"] f fd) (B:Bl mg):FnOk P w K mg base CX0 1 f fd ["book", "deal"] (qS K):=by
 refine G.fn.ok gO (fun vs H Q E h=>?_) (fun cdv A outer s H vs Q E hr h=>?_)
 ·obtain ⟨x,y,n,ws,hs,rfl,_⟩:=h
  rfl
 ·obtain ⟨x,y,n,ws,hs,rfl,g,k⟩:=h
  refine ⟨_,(aG (pF (i:=2) (own:=["hand"]) (fr:=[]) (frn:=[]) (bT (aO iN) ["book", "deal", "rows", "work", "giver", "able", "taker"] rfl rfl (by decide +kernel)) rfl gO.nd rfl rfl rfl (eV rfl B.range (aA (bO eA (pv 0) aH (fun _ _=>rfl)) aE))
    (fun _ _ _ _=>(aS (i:=0) (show (["hand"]:List Str).Nodup by decide +kernel) rfl (Or.inl rfl))) (fun _ _ _ _=>iE)
    (fun _ _ _ _=>aBR))
   (aG (eP PassesOwn.never rfl (yF .l .t rfl B.enumerate rfl B.zip (aA (pv 1) (aA (bO eA (pv 0) aH (fun _ _=>rfl)) aE))) (jN rfl (bX (aS (i:=3) gO.nd rfl (Or.inl rfl)) (bX (jN rfl (bX (aS (i:=4) gO.nd rfl (Or.inl rfl)) (bX (aS (i:=5) gO.nd rfl (Or.inl rfl)) hG))) hG)))
    (aL (eP PassesOwn.never rfl (iC (pv 5)) (aS (i:=6) gO.nd rfl (Or.inl rfl))
     (aL (bW (aW lE (pv 6) (pv 4) (bD _))
      (aL (zW (pC hr) (bO cB (pv 2) (pv 4) (fun _ _=>rfl)) (pv 6) (pv 3) rfl))
      bH)))))
   (aL (bA (pv 2))))),?_⟩
  obtain ⟨hl12,hn1,hn6⟩:=g.len
  obtain ⟨a,b,ys,rfl,ha,hb2,hys⟩:=eJ g.bk
  have hy:=g.sq
  obtain ⟨hdl,hdg⟩:=g.deal
  have hw12:=g.w12
  have hlw:=aN hys
  rw [Qb] at hlw
  refine ⟨_,rfl,a,_,0,.int n,rfl,rfl,ha,rfl,n,rfl,by omega,by omega,iW (lo:=0) (n:=n.toNat) (fun σ=>∃ v,σ = [v]) (fun i zs H2=>∃ qs:List Addr,zs=qs.map V.ref/\qs.length=i/\aF H H2/\qs.Nodup/\∀ q∈qs,H q=none/\H2 q=some (.dK [])) ?_ ⟨none,rfl⟩ ⟨[],rfl,rfl,aF.refl H,List.nodup_nil,fun _ h=>(Qn h).elim⟩ ?_ ?_ ?_⟩
  ·rw [sizeLine_eq]; omega
  ·rintro i zs H2 ⟨qs,rfl,hq,_⟩
   rw [Qb]; omega
  ·rintro i zs σ H2 hi ⟨v,rfl⟩ ⟨qs,rfl,hq,s2,nd,hqs⟩ hz
   refine jD ?_
   intro p hp
   refine ⟨hz,⟨_,rfl⟩,qs++[p],by rw [Qy]; rfl,by rw [Qs,hq]; rfl,s2.trans (aF.new hp),?_,fun q hq'=>?_⟩
   ·rw [List.nodup_append]
    refine ⟨nd,by simp,fun x hx y hy e=>?_⟩
    rw [Qr.mp hy] at e
    have:=(hqs x hx).2
    rw [e,hp] at this; cases this
   ·rcases Jf.mp hq' with h | h
    ·exact ⟨(hqs q h).1,(aF.new hp) _ _ (hqs q h).2⟩
    ·rw [Qr.mp h]
     exact ⟨s2.free hp,aC⟩
  ·rintro zs H2 ⟨qs,rfl,hq,s2,nd,hqs⟩ rp hrp
   have s3:=s2.trans (aF.new (o:=.lst (qs.map V.ref)) hrp)
   have hrp0:H rp=none:=s2.free hrp
   have R3:Rows (upd H2 rp (.lst (qs.map V.ref))) rp qs (List.replicate n.toNat []):=⟨aC,by rw [Jw]; exact hq,nd,fun g q r h1 h2=>by
    have er:r = []:=by
     rw [Xa] at h2
     split at h2
     ·exact (Option.some.inj h2).symm
     ·cases h2
    rw [er]
    exact (aF.new hrp) _ _ (hqs q (Qj h1)).2⟩
   generalize upd H2 rp (.lst (qs.map V.ref))=H3 at s3 R3 ⊢
   have h6:∀ l∈ws,l.length<=6:=g.six
   refine ⟨_,rfl,_,rfl,a,_,1,.ref b,rfl,rfl,s3.seqT ha,rfl,y,b,_,_,rfl,s3.seqL hy,s3.seqT hb2,wH (K:=K) (k1:=.l) (k2:=.t) (a:=y) (b:=b) (xs:=hs.map V.int) (ys:=ys)
    (fun i σ H4=>(∃ v3 v4 v5 v6,σ = [some (.ref a),some (.ref y),some (.ref rp),v3,v4,v5,v6])/\aF H H4/\∃ rs,Rows H4 rp qs rs/\rs.length=n.toNat/\aAj (fun g w t=>w < i/\jM ws hs g w t) rs (6*i))
    (by rw [Qb]; omega) ⟨⟨_,_,_,_,rfl⟩,s3,_,R3,Jw,fun g r hr=>?_⟩ (fun _ σ H4 _ ⟨_,s4,_⟩=>⟨s4.seqL hy,s4.seqT hb2⟩) ?_ ?_⟩
   ·have er:r = []:=by
     rw [Xa] at hr
     split at hr
     ·exact (Option.some.inj hr).symm
     ·cases hr
    rw [er]
    exact ⟨rN.nil fun w t h=>by omega,Jm _⟩
   ·rintro i u v p q σ H4 hu hv ⟨⟨v3,v4,v5,v6,rfl⟩,s4,rs,R4,hl4,E4⟩ hp hq hne
    obtain ⟨h,hh,rfl⟩:=aAi hu
    obtain ⟨dv,hdv,denv⟩:=cC hys hv
    rw [Qh] at hdv
    obtain ⟨l,hl,rfl⟩:∃ l,ws[i]?=some l/\cT l=dv:=by
     cases q:ws[i]? with
     | none=>rw [q] at hdv; cases hdv
     | some l=>rw [q] at hdv; exact ⟨l,rfl,Option.some.inj hdv⟩
    obtain ⟨aw,rfl,haw⟩:=cM.mp denv
    obtain ⟨hh0,hh1⟩:=g.hand hh
    have hl6:=h6 l (Qj hl)
    have hi12:i < 12:=by
     have:=(Qc.mp hh).1
     omega
    have sp:=aF.new (o:=.tup [.int h,.ref aw]) hp
    have hq1:upd H4 p (.tup [.int h,.ref aw]) q=none:=by rw [aK hne]; exact hq
    have sq:=aF.new (o:=.tup [.int (i:Nat),.ref p]) hq1
    have ep:upd (upd H4 p (.tup [.int h,.ref aw])) q (.tup [.int (i:Nat),.ref p]) p=some (.tup [.int h,.ref aw]):=sq _ _ aC
    have eq:upd (upd H4 p (.tup [.int h,.ref aw])) q (.tup [.int (i:Nat),.ref p]) q=some (.tup [.int (i:Nat),.ref p]):=aC
    have s5:=s4.trans (sp.trans sq)
    have R5:=R4.same (sp.trans sq)
    generalize upd (upd H4 p (.tup [.int h,.ref aw])) q (.tup [.int (i:Nat),.ref p])=H5 at ep eq s5 R5 ⊢
    refine ⟨q,_,rfl,SqT.of eq,rfl,_,_,rfl,_,_,rfl,p,_,rfl,SqT.of ep,rfl,_,_,rfl,_,_,rfl,rfl,rfl,?_⟩
    have hgl:h.toNat < qs.length:=by rw [R5.len,hl4]; omega
    obtain ⟨qh,hqh⟩:∃ qh,qs[h.toNat]?=some qh:=⟨_,Qd hgl⟩
    have hcast:((h.toNat:Nat):Int)=h:=by omega
    refine ⟨_,rfl,aw,rfl,⟨_,s5.seqT haw⟩,tG (K:=K) (a:=aw) (xs:=l.map V.int) (fun j σ H6=>(∃ v6,σ = [some (.ref a),some (.ref y),some (.ref rp),some (.int (i:Nat)),some (.int h),some (.ref aw),v6])/\aF H H6/\∃ rs,Rows H6 rp qs rs/\rs.length=n.toNat/\aAj (fun g w t=>(w < i/\jM ws hs g w t)∨(w=i/\g=h/\t∈l.take j/\t≠h)) rs (6*i+j))
     ⟨⟨_,rfl⟩,s5,rs,R5,hl4,fun g r hr=>⟨(E4 g r hr).1.congr fun w t=>⟨.inl,fun z=>z.elim id fun z=>by rw [List.take_zero] at z; exact (Qn z.2.2.1).elim⟩,(E4 g r hr).2⟩⟩ (fun _ σ H6 _ ⟨_,s6,_⟩=>s6.seqT haw) ?_ ?_⟩
    ·rintro j tv σ H6 htv ⟨⟨v6,rfl⟩,s6,rs,R6,hl6',E6⟩
     obtain ⟨t,ht,rfl⟩:=aAi htv
     have hj:j < l.length:=(Qc.mp ht).1
     have etake:l.take (j+1)=l.take j++[t]:=by rw [Jz,ht]; rfl
     refine ⟨_,rfl,_,rfl,rfl,_,rfl,?_⟩
     refine cR (fun c=>?_) (fun c=>?_)
     ·have hth:t≠h:=fun z=>by rw [z] at c; simp at c
      obtain ⟨r,hr⟩:∃ r,rs[h.toNat]?=some r:=⟨_,Qd (by rw [hl6']; omega)⟩
      have hat:atI (qs.map V.ref) h=some (.ref qh):=by
       have:=eZ (xs:=qs.map V.ref) (j:=h.toNat) (v:=.ref qh) (by rw [Qh,hqh]; rfl)
       rwa [hcast] at this
      have hrow:=R6.row _ _ _ hqh hr
      have hrl:=(E6 _ _ hr).2
      have hqH:H qh=none:=(hqs qh (Qj hqh)).1
      refine ⟨_,rfl,_,rfl,_,rfl,rp,_,h,_,rfl,rfl,SqL.of R6.lst,hat,_,rfl,qh,_,rfl,wB.k (k:=.inl t) hrow (by rw [sizeLine_eq]; omega),?_⟩
      refine ⟨⟨_,rfl⟩,s6.wr hqH,rs.set h.toNat (jA r (.inl t) (.int (i:Nat))),R6.put hqh hr,by rw [Zh]; exact hl6',fun g2 r2 hr2=>?_⟩
      rw [Zm] at hr2
      by_cases eg:h.toNat=g2
      ·rw [if_pos eg,if_pos (by rw [hl6']; omega)] at hr2
       cases hr2
       have eg':((g2:Nat):Int)=h:=by omega
       refine ⟨((E6 _ _ hr).1.put i t).congr fun w t'=>?_,Qx (kF _ _ _) (by omega)⟩
       rw [hcast,eg',etake]
       constructor
       ·rintro ((z | ⟨z1,z2,z3,z4⟩) | ⟨z1,z2⟩)
        ·exact .inl z
        ·exact .inr ⟨z1,z2,Jq _ z3,z4⟩
        ·exact .inr ⟨z1,rfl,by rw [z2]; simp,by rw [z2]; exact hth⟩
       ·rintro (z | ⟨z1,z2,z3,z4⟩)
        ·exact .inl (.inl z)
        ·rcases Jf.mp z3 with z3 | z3
         ·exact .inl (.inr ⟨z1,z2,z3,z4⟩)
         ·exact .inr ⟨z1,Qr.mp z3⟩
      ·rw [if_neg eg] at hr2
       refine ⟨(E6 _ _ hr2).1.congr fun w t'=>?_,Qx (E6 _ _ hr2).2 (by omega)⟩
       have ng:¬ ((g2:Nat):Int)=h:=by omega
       constructor
       ·rintro (z | ⟨_,z2,_⟩)
        ·exact .inl z
        ·exact absurd z2 ng
       ·rintro (z | ⟨_,z2,_⟩)
        ·exact .inl z
        ·exact absurd z2 ng
     ·have hth:t=h:=by simpa using c
      refine ⟨⟨_,rfl⟩,s6,rs,R6,hl6',fun g2 r2 hr2=>⟨(E6 _ _ hr2).1.congr fun w t'=>?_,Qx (E6 _ _ hr2).2 (by omega)⟩⟩
      rw [etake]
      constructor
      ·rintro (z | ⟨z1,z2,z3,z4⟩)
       ·exact .inl z
       ·exact .inr ⟨z1,z2,Jq _ z3,z4⟩
      ·rintro (z | ⟨z1,z2,z3,z4⟩)
       ·exact .inl z
       ·rcases Jf.mp z3 with z3 | z3
        ·exact .inr ⟨z1,z2,z3,z4⟩
        ·exact absurd ((Qr.mp z3).trans hth) z4
    ·rintro σ H6 ⟨⟨v6,rfl⟩,s6,rs,R6,hl6',E6⟩
     refine ⟨⟨_,_,_,_,rfl⟩,s6,rs,R6,hl6',fun g2 r2 hr2=>⟨(E6 _ _ hr2).1.congr fun w t'=>?_,Qx (E6 _ _ hr2).2 (by rw [Qb]; omega)⟩⟩
     rw [Qb,Xk]
     constructor
     ·rintro (⟨z1,z2⟩ | ⟨z1,z2,z3,z4⟩)
      ·exact ⟨by omega,z2⟩
      ·subst z1
       exact ⟨by omega,by rw [hh,z2],l,hl,z3,by rw [z2]; exact z4⟩
     ·rintro ⟨z1,z2⟩
      by_cases hw:w < i
      ·exact .inl ⟨hw,z2⟩
      ·have ew:w=i:=by omega
       subst ew
       obtain ⟨z3,l',z4,z5,z6⟩:=z2
       rw [hh] at z3
       rw [hl] at z4
       cases z4
       have ez:h=g2:=Option.some.inj z3
       exact .inr ⟨rfl,ez.symm,z5,by rw [ez]; exact z6⟩
   ·rintro σ H4 ⟨⟨v3,v4,v5,v6,rfl⟩,s4,rs,R4,hl4,E4⟩
    refine ⟨_,rfl,k rp H4 qs rs s4 hrp0 (fun q hq=>(hqs q hq).1) R4 hl4 fun g r hr=>⟨(E4 g r hr).1.congr fun w t=>⟨fun z=>z.2,fun z=>⟨?_,z⟩⟩,Qx (E4 g r hr).2 (by rw [Qb]; omega)⟩⟩
    rw [Qb]
    exact (Qc.mp z.1).1
def aFX (ws:List (List Int)) (rs:List Int) (os:List (Option Int)):Prop:=os.length=ws.length/\(∀ (j:Nat) (h:Int) (l:List Int),os[j]?=some (some h)->ws[j]?=some l->h∈l)/\∀ i,i < rs.length->((os.count (some (i:Int)):Nat):Int)<=rs.getD i 0
theorem aA1 {tA tB:TT} {σ:St} {H:Hp} {Q:Bool->Hp->Prop} (a b:Bool) (hA:∀ R:Bool->Hp->Prop,R a H->tA σ H R) (hB:a=true->∀ R:Bool->Hp->Prop,R b H->tB σ H R) (h:Q (a && b) H):aCG tA tB σ H Q:=by
 refine hA _ ?_
 cases a with
 | false=>exact eQ h
 | true=>exact eD (hB rfl _ h)
theorem sU {Q:Nat->Int->Prop}:∀ (ss:List (Nat×Int×Int)) (hs:List Int),(∀ (j:Nat) (h:Int),hs[j]?=some h->Q j h)->(∀ s∈ss,Q s.1 s.2.2)->∀ (j:Nat) (h:Int),(gX hs ss)[j]?=some h->Q j h
 | [],_,h0,_=>h0
 | s::r,hs,h0,h1=>by
  refine sU r (hs.set s.1 s.2.2) (fun j h e1=>?_) fun s' h'=>h1 s' (Qm _ h')
  rw [Zm] at e1
  by_cases e:s.1=j
  ·rw [if_pos e] at e1
   split at e1
   ·rw [<- Option.some.inj e1,<- e]
    exact h1 s (Qo ..)
   ·cases e1
  ·rw [if_neg e] at e1
   exact h0 j h e1
theorem lX {ws:List (List Int)} {hs:List Int}:∀ {ss:List (Nat×Int×Int)} {h x:Int},eU ws hs h ss x->∀ s∈ss,jM ws hs s.2.1 s.1 s.2.2
 | [],_,_,_,_,m=>(Qn m).elim
 | s::r,h,x,⟨e1,e2,e3⟩,s',m=>by
  rcases Qk.mp m with rfl | m
  ·rw [e1]; exact e2
  ·exact lX e3 s' m
theorem yS (hs:List Int) (ss:List (Nat×Int×Int)) (s:Nat×Int×Int):gX hs (ss++[s])=(gX hs ss).set s.1 s.2.2:=by
 unfold gX
 rw [List.foldl_append]
 rfl
theorem qT {p:Int->Bool} {f:List Int->Bool}:∀ {ws:List (List Int)} {hs:List Int},hs.length=ws.length->(∀ (i:Nat) (l:List Int) (h:Int),ws[i]?=some l->hs[i]?=some h->f l=p h)->(((ws.filter f).length:Nat):Int)=inS p hs
 | [],[],_,_=>rfl
 | l::ws,h::hs,hl,hq=>by
  have ih:=qT (p:=p) (f:=f) (ws:=ws) (hs:=hs) (by simpa using hl) fun i a b ha hb=>hq (i+1) a b (by simpa using ha) (by simpa using hb)
  have h0:=hq 0 l h rfl rfl
  show _=(if p h then (1:Int) else 0)+inS p hs
  rw [<- ih,<- h0]
  cases hf:f l with
  | true=>rw [Xl hf,if_pos rfl,Jk]; omega
  | false=>rw [Xm (by rw [hf]; decide),if_neg Qq]; omega
 | [],_::_,hl,_=>by simp at hl
 | _::_,[],hl,_=>by simp at hl
theorem qU {p:Int->Bool} {g:Int->Int}:∀ l:List Int,bU ((l.filter p).map g)=bU (l.map fun h=>if p h then g h else 0)
 | []=>rfl
 | x::l=>by
  show _=(if p x then g x else 0)+bU (l.map fun h=>if p h then g h else 0)
  rw [<- qU l]
  cases hp:p x with
  | true=>rw [Xl hp,if_pos rfl]; rfl
  | false=>rw [Xm (by rw [hp]; decide),if_neg Qq,Wa]
theorem aA2 (m:Nat):cV (m+1)=cV m++[(m:Int)]:=by unfold cV; rw [List.range_succ,Qy]; rfl
def mQ (n:Int) (os:List Int):List Int:=(cV n.toNat).filter fun h=>decide (h∈os)
theorem qV {n:Int} {os:List Int} {h:Int}:h∈mQ n os↔(0<=h/\h < n)/\h∈os:=by
 unfold mQ
 rw [Zq,decide_eq_true_iff]
 refine and_congr_left fun _=>?_
 unfold cV
 rw [Jl]
 constructor
 ·rintro ⟨i,hi,rfl⟩
  have:=Xf.mp hi
  omega
 ·rintro ⟨h0,h1⟩
  exact ⟨h.toNat,Xf.mpr (by omega),by omega⟩
theorem aA3 (n:Int) (os:List Int):(mQ n os).Pairwise (· < ·):=by
 refine List.Pairwise.filter _ ?_
 unfold cV
 rw [List.pairwise_map]
 exact List.Pairwise.imp (fun h=>by omega) (Yj)
def aEI (n:Int) (ws:List (List Int)) (hs:List Int):Prop:=hs.length=ws.length/\∀ (j:Nat) (h:Int),hs[j]?=some h->h=n∨∃ l,ws[j]?=some l/\h∈l
theorem aDt {n:Int} {ws:List (List Int)} {rs hs os:List Int} (hn:0<=n) (hw:∀ l∈ws,∀ x∈l,0<=x/\x < n) (hd:aEI n ws hs) (hc:aCd ws hs os) (hno:n∈os) (hf:∀ h∈os,0<=h->h < n->((hs.count h:Nat):Int)=rs.getD h.toNat 0) :
  xA ws rs (mQ n os)=((hs.count n:Nat):Int):=by
 have hrng:∀ h∈hs,0<=h/\h < n+1:=fun h hh=>by
  obtain ⟨j,hj⟩:=Ji.mp hh
  rcases hd.2 j h hj with rfl | ⟨l,hl,hm⟩
  ·omega
  ·have:=hw l (Qj hl) h hm; omega
 have e1:=qT (p:=fun h=>decide (h∈os)) (f:=fun l=>l.all fun h=>(mQ n os).any (·==h)) hd.1 fun i l h hl hh=>by
  rw [Xq,Ja,decide_eq_true_iff]
  constructor
  ·intro q
   rcases hd.2 i h hh with rfl | ⟨l',hl',hm⟩
   ·exact hno
   ·rw [hl] at hl'
    cases hl'
    obtain ⟨x,hx,ex⟩:=Zg.mp (q h hm)
    rw [<- eq_of_beq ex]
    exact (qV.mp hx).2
  ·intro q t ht
   have htr:=hw l (Qj hl) t ht
   refine Zg.mpr ⟨t,qV.mpr ⟨htr,?_⟩,by simp⟩
   by_cases e:t=h
   ·rw [e]; exact q
   ·exact hc h q i t ⟨hh,l,hl,ht,e⟩
 have e2:=sS (n:=n+1) (fun h=>decide (h∈os)) hrng
 rw [show (n+1).toNat=n.toNat+1 by omega,aA2,Qy,jH,show ((n.toNat:Nat):Int)=n by omega] at e2
 have e3:bU ([n].map fun h=>if (decide (h∈os))=true then ((hs.count h:Nat):Int) else 0)=((hs.count n:Nat):Int):=by
  show (if (decide (n∈os))=true then ((hs.count n:Nat):Int) else 0)+0=_
  rw [decide_eq_true hno,if_pos rfl]; omega
 have e4:bU ((mQ n os).map fun h=>rs.getD h.toNat 0)=bU ((cV n.toNat).map fun h=>if (decide (h∈os))=true then ((hs.count h:Nat):Int) else 0):=by
  unfold mQ
  rw [qU]
  refine oA fun h hh=>?_
  by_cases q:h∈os
  ·rw [decide_eq_true q,if_pos rfl,if_pos rfl]
   unfold cV at hh
   obtain ⟨i,hi,rfl⟩:=Jl.mp hh
   have:=Xf.mp hi
   exact (hf _ q (by omega) (by omega)).symm
  ·rw [decide_eq_false q,if_neg Qq,if_neg Qq]
 unfold xA
 rw [e1,e4]
 omega
def jI (n:Int) (hs:List Int):List (Option Int):=hs.map fun h=>if h < n then some h else none
theorem aA4 {n:Int} {hs:List Int} {h:Int} (h1:h < n):(jI n hs).count (some h)=hs.count h:=by
 unfold jI
 induction hs with
 | nil=>rfl
 | cons x hs ih =>
  rw [Qu,Js,Js,ih]
  congr 1
  by_cases hx:x < n
  ·rw [if_pos hx]
   by_cases e:x=h
   ·simp [e]
   ·simp [e]
  ·rw [if_neg hx]
   have:¬ x=h:=by omega
   simp [this]
theorem aA5 {n:Int} {hs:List Int} (hr:∀ h∈hs,h<=n):(jI n hs).count none=hs.count n:=by
 unfold jI
 induction hs with
 | nil=>rfl
 | cons x hs ih =>
  rw [Qu,Js,Js,ih fun h hh=>hr h (Qm _ hh)]
  congr 1
  have:=hr x (Qo ..)
  by_cases hx:x < n
  ·rw [if_pos hx]
   have:¬ x=n:=by omega
   simp [this]
  ·rw [if_neg hx]
   have:x=n:=by omega
   simp [this]
structure ToldR (n:Int) (ws:List (List Int)) (rs:List Int) (os:List (Option Int)) (ls:List Int):Prop where
 dealt:aFX ws rs os
 rise:ls.Pairwise (· < ·)
 rng:∀ x∈ls,0<=x/\x < n
 over:xA ws rs ls=((os.count none:Nat):Int)
def aDW (K:PySem.W.Frag):Sp:=fun vs H Q _=>∃ (x:V) (q:Addr) (n:Int) (ws:List (List Int)) (rs:List Int),vs = [x,.ref q]/\Den K H (bY n ws) x/\bN (bY n ws)=true/\SqT K H q (rs.map V.int)/\gL n rs /\
 ∀ (p dp sp:Addr) (os:List (Option Int)) (ls:List Int) H',aF H H'->H' p=some (.tup [.ref dp,.ref sp])->H' dp=some (.tup (os.map oV))->H' sp=some (.tup (ls.map V.int))->ToldR n ws rs os ls->Q (.ref p) H'
theorem kM:FnScope ["book", "rooms", "hands", "works", "deal", "found", "free", "work", "giver", "taker", "some"] ["book", "rooms"] (aO wK):=⟨rfl,rfl,rfl,by decide +kernel,rfl,by decide +kernel,by decide +kernel⟩
set_option maxHeartbeats 4000000 in
theorem aEJ {f fN fHd fR fW' fA:Addr} {fd dN dHd dR dW' dA:FuncData} (G:Fn K mg "in_rooms" wK ["book", "rooms"] f fd) (B:Bl mg) (R:Pr K mg fW fH fK fB fNB dW dH dK dB dNB)
  (GNr:Fn K mg "need_rooms" gU ["book", "rooms"] fN dN) (GAr:Fn K mg "are_rooms" fP ["book", "thing"] fA dA) (GH:Fn K mg "handing" iN ["book", "deal"] fHd dHd) (GR:Fn K mg "reached" kG ["rows", "first"] fR dR) (GW:Fn K mg "way_to" qF ["found", "last"] fW' dW'):FnOk P w K mg base CX0 7 f fd ["book", "rooms"] (aDW K):=by
 have ONr:FnOk P w K mg base CX0 6 fN dN ["book", "rooms"] (mP K):=wZ GNr B R GAr
 have OH:FnOk P w K mg base CX0 1 fHd dHd ["book", "deal"] (qS K):=xB GH B
 have OR:FnOk P w K mg base CX0 1 fR dR ["rows", "first"] (sQ K):=yR GR B
 have OW:FnOk P w K mg base CX0 1 fW' dW' ["found", "last"] (aAk K):=aCe GW B
 refine G.fn.ok kM (fun vs H Q E h=>?_) (fun cdv A outer s H vs Q E hr h=>?_)
 ·obtain ⟨x,q,n,ws,rs,rfl,_⟩:=h
  rfl
 ·obtain ⟨x,q,n,ws,rs,rfl,hx,hbk,hq,hro,k⟩:=h
  have r6:Room 6 _:=hr
  have r1:Room 1 _:=hr.mono (by decide)
  refine ⟨_,(aG (bV (bI GNr ONr r6 rfl (aA (pv 0) (aA (pv 1) aE))))
  (aG (lL (pv 0) (jN rfl (bX (aS (i:=2) kM.nd rfl (Or.inr rfl)) (bX (aS (i:=3) kM.nd rfl (Or.inl rfl)) hG))))
  (aG (aX (i:=4) kM.nd rfl (Or.inr rfl) (bB aBp (dE (aA (pv 2) aE)) (aT bC rfl B.len gD (aA (pv 3) aE))))
  (aG (oR PassesOwn.never (cZ eX)
   (aG (aX (i:=5) kM.nd rfl (Or.inr rfl) (bI GR OR r1 rfl (aA (bI GH OH r1 rfl (aA (eY (aA (bB cQ (pv 2) aH) (aA (pv 3) aE))) (aA (pv 4) aE))) (aA (pv 2) aE))))
  (aG (zY (pF (i:=6) (own:=["hand"]) (fr:=[4,2,1]) (frn:=["deal", "hands", "rooms"]) (bT (aO wK) ["book", "rooms", "hands", "works", "deal", "found", "free", "work", "giver", "taker", "some"] rfl rfl (by decide +kernel)) rfl kM.nd rfl rfl rfl (zX (pv 5))
    (fun _ _ _ _=>(aS (i:=0) (show (["hand", "deal", "hands", "rooms"]:List Str).Nodup by decide +kernel) rfl (Or.inl rfl))) (fun _ _ _ _=>pD (PW.pt (mU (aW rQ (pv 0) (pv 2) (bD _)) (kQ (aW rQ (uJ (K:=K) rfl PySem.F.plainAttrs_list PySem.F.slot_list_count PySem.F.type_list_count (aAV (K:=K) rfl) (pv 1) (aA (pv 0) aE)) (bO (jE (K:=K) rfl) (pv 3) (pv 0) (fun _ _=>rfl)) (bD _))))))
    (fun _ _ _ _=>(pv 0))))
  (aG (bW (aW jQ (aT bC rfl B.len gD (aA (pv 6) aE)) aH (bD _))
   (aL uX)
   bH)
  (aL (eP PassesOwn.never rfl (kR (bI GW OW r1 rfl (aA (pv 5) (aA (bO cB (pv 6) aH (fun _ _=>rfl)) aE)))) (jN rfl (bX (aS (i:=7) kM.nd rfl (Or.inl rfl)) (bX (aS (i:=8) kM.nd rfl (Or.inl rfl)) (bX (aS (i:=9) kM.nd rfl (Or.inl rfl)) hG))))
   (aL (lL (pv 9) (tF (pv 4) (pv 7) jT)))))))))
  (aG (aX (i:=10) kM.nd rfl (Or.inl rfl) (cA cI rfl B.tuple cP (aA (dX (own:=["hand"]) (fr:=[5]) (frn:=["found"]) (bT (aO wK) ["book", "rooms", "hands", "works", "deal", "found", "free", "work", "giver", "taker", "some"] rfl rfl (by decide +kernel)) rfl (eV rfl B.range (aA (pv 2) aE))
    (fun _ _ _ _=>(aS (i:=0) (show (["hand", "found"]:List Str).Nodup by decide +kernel) rfl (Or.inl rfl))) (fun _ _ _ _=>pD (xI (aEA (pC hr) (pv 0) (pv 1)) (by with_unfolding_all rfl)))
    (fun _ _ _ _=>(pv 0))) aE)))
  (aL (bA (eY (aA (cA cI rfl B.tuple cP (aA (dX (own:=["hand"]) (fr:=[2]) (frn:=["hands"]) (bT (aO wK) ["book", "rooms", "hands", "works", "deal", "found", "free", "work", "giver", "taker", "some"] rfl rfl (by decide +kernel)) rfl (kR (pv 4))
    (fun _ _ _ _=>(aS (i:=0) (show (["hand", "hands"]:List Str).Nodup by decide +kernel) rfl (Or.inl rfl))) (fun _ _ _ _=>iE)
    (fun _ _ _ _=>(aBd (aW rQ (pv 0) (pv 1) (bD _)) (pv 0) iR))) aE)) (aA (pv 10) aE)))))))))),?_⟩
  obtain ⟨hn1,hn6,hw12,hws⟩:=cK hbk
  have hwk:∀ l∈ws,∀ x∈l,0<=x/\x < n:=fun l hl=>(eT (hws l hl)).2.1
  have hw6:∀ l∈ws,l.length<=6:=fun l hl=>by
   obtain ⟨_,w2,w3⟩:=eT (hws l hl)
   have:=jF (by omega) w2 w3
   omega
  refine ⟨_,rfl,_,rfl,x,q,n,ws,rs,rfl,hx,hbk,hq,hro,fun H1 s1=>?_⟩
  obtain ⟨a,b,ys,rfl,ha,hb2,hys⟩:=eJ (s1.den _ _ hx)
  have hlw:=aN hys
  rw [Qb] at hlw
  have hq1:=s1.seqT hq
  refine ⟨_,rfl,a,_,rfl,ha,rfl,_,_,rfl,_,_,rfl,rfl,?_⟩
  refine ⟨_,rfl,sz1 _,fun z hz=>⟨_,rfl,b,_,rfl,.inr ((aF.new hz).seqT hb2),z,_,_,rfl,rfl,aC,by omega,by omega,eM (by simp; omega),fun dl hdl=>?_⟩⟩
  have s2:=aF.new (o:=.lst [V.int n]) hz
  generalize upd H1 z (.lst [V.int n])=H2 at s2 hdl ⊢
  have ed0:(List.replicate ((ys.length:Int)).toNat [V.int n]).flatten=(List.replicate ws.length n).map V.int:=by
   rw [Zk,List.map_replicate,Jg,hlw]
  rw [ed0]
  have hdl1:H1 dl=none:=s2.free hdl
  have s3:=s2.trans (aF.new (o:=.lst ((List.replicate ws.length n).map V.int)) hdl)
  have d3:upd H2 dl (.lst ((List.replicate ws.length n).map V.int)) dl=some (.lst ((List.replicate ws.length n).map V.int)):=aC
  generalize upd H2 dl (.lst ((List.replicate ws.length n).map V.int))=H3 at s3 d3 ⊢
  have hx1:=s1.den _ _ hx
  have hw0:aEI n ws (List.replicate ws.length n):=⟨Jw,fun j h e=>.inl (Xt (Qj e))⟩
  have hc0:∀ h:Int,0<=h->h < n->(((List.replicate ws.length n).count h:Nat):Int)<=rs.getD h.toNat 0:=fun h _ h1=>by
   rw [List.count_eq_zero_of_not_mem (fun z=>by have:=Xt z; omega)]
   exact (oB hro h).1
  generalize List.replicate ws.length n=hs0 at d3 hw0 hc0
  refine ⟨fun m σ H4=>∃ (v5 v6 v7 v8 v9 v10:Option V) (hs:List Int),σ = [some (.ref a),some (.ref q),some (.int n),some (.ref b),some (.ref dl),v5,v6,v7,v8,v9,v10]/\m=hs.count n/\aF H1 H4/\H4 dl=some (.lst (hs.map V.int))/\aEI n ws hs/\∀ h:Int,0<=h->h < n->((hs.count h:Nat):Int)<=rs.getD h.toNat 0,
   ⟨_,_,_,_,_,_,_,hs0,rfl,rfl,s3,d3,hw0,hc0⟩,?_⟩
  rintro m σ H4 ⟨v5,v6,v7,v8,v9,v10,hs,rfl,rfl,s4,d4,hh,hle⟩
  refine ⟨_,rfl,eD ⟨_,fun σ' H' z=>z,?_⟩⟩
  have hrng:∀ h∈hs,0<=h/\h < n+1:=fun h hm=>by
   obtain ⟨j,hj⟩:=Ji.mp hm
   rcases hh.2 j h hj with rfl | ⟨l,hl,hm⟩
   ·omega
   ·have:=hwk l (Qj hl) h hm; omega
  refine ⟨_,rfl,_,_,rfl,rfl,_,rfl,sz2 _ _,fun bk hbk'=>?_⟩
  have s5:=aF.new (o:=.tup [.int (n+1),.ref b]) hbk'
  have b5:upd H4 bk (.tup [.int (n+1),.ref b]) bk=some (.tup [.int (n+1),.ref b]):=aC
  have d5:=s5 _ _ d4
  have s05:=s4.trans s5
  generalize upd H4 bk (.tup [.int (n+1),.ref b])=H5 at s5 b5 d5 s05 ⊢
  have gN:GoodN K H5 (.ref bk) dl (n+1) ws hs:=⟨sP (SqT.of b5) (s05.seqT hb2) (s05.denAll _ _ hys),by omega,by omega,hw12,hw6,SqL.of d5,hh.1,hrng⟩
  refine ⟨_,rfl,.ref bk,dl,n+1,ws,hs,rfl,gN,fun rp H6 qs rws s6 hrp hqs R6 hlr ER=>?_⟩
  have s06:=s05.trans s6
  have d6:=s6 _ _ d5
  have hedge:∀ g w t,jM ws hs g w t->0<=t/\t < n+1:=fun g w t e=>by
   obtain ⟨_,l,h1,h2,_⟩:=e
   have:=hwk l (Qj h1) t h2
   omega
  refine ⟨_,rfl,rp,n,qs,rws,n+1,ws,hs,rfl,R6,hlr,ER,hedge,by omega,by omega,by omega,fun fdp H7 fs os s7 hfd e7 T7 C7=>?_⟩
  have s07:=s06.trans s7
  have d7:=s7 _ _ d6
  have T7l:=T7.len
  have hfl:=T7.flen
  have hnos:n∈os:=Qj T7.head
  have hat:∀ o:Int,0<=o->o < n->atI (rs.map V.int) o=some (.int (rs.getD o.toNat 0)):=fun o h0 h1=>by
   have hl:o.toNat < rs.length:=by rw [hro.1]; omega
   have:=eZ (xs:=rs.map V.int) (j:=o.toNat) (v:=.int (rs.getD o.toNat 0)) (by rw [Qh,Jp,Qd hl]; rfl)
   rwa [show ((o.toNat:Nat):Int)=o by omega] at this
  refine ⟨_,rfl,fdp,fs,rfl,e7,fun o nf=>aAW (a:=fdp) (o:=o) (kvs:=fs) (fun σ=>∃ v,σ = [v,some (.ref dl),some (.int n),some (.ref q)]) (fun i zs H8=>H8=upd H7 fdp (.frz o (.dK fs))/\zs=((os.take i).filter fun o=>decide (o < n) && decide (((hs.count o:Nat):Int) < rs.getD o.toNat 0)).map V.int) (eM (by omega)) ⟨_,rfl⟩ ⟨rfl,rfl⟩ (fun i zs H8 z=>?_) (fun i zs H8 z=>by rw [z.1]; exact aC) ?_ ?_⟩
  ·rw [z.2,Qb]
   exact Qx (Zb _ _) (by rw [Jd]; omega)
  ·rintro i zs' σ p H8 hp ⟨v,rfl⟩ ⟨rfl,rfl⟩ hsz
   obtain ⟨ov,hov,hpe⟩:∃ ov,os[i]?=some ov/\p.1=.inl ov:=by
    have e:=congrArg (fun l=>l[i]?) T7.keys
    simp only [Qh] at e
    rw [hp] at e
    cases q:os[i]? with
    | none=>rw [q] at e; cases e
    | some ov=>rw [q] at e; exact ⟨ov,rfl,Option.some.inj e⟩
   have etake:os.take (i+1)=os.take i++[ov]:=by rw [Jz,hov]; rfl
   have hor:=T7.rng ov (Qj hov)
   have s8:aF H6 (upd H7 fdp (.frz o (.dK fs))):=s7.wr hfd
   have d8:=s8 _ _ d6
   have q8:=(s06.trans s8).seqT hq1
   generalize upd H7 fdp (.frz o (.dK fs))=H8 at s8 d8 q8
   rw [hpe]
   refine aA1 (decide (ov < n)) (decide (((hs.count ov:Nat):Int) < rs.getD ov.toNat 0)) (fun R hR=>?_) (fun h0 R hR=>?_) ?_
   ·exact ⟨_,rfl,_,rfl,_,_,rfl,rfl,_,rfl,hR⟩
   ·have h0':ov < n:=of_decide_eq_true h0
    exact ⟨_,rfl,.inl ⟨rfl,_,SqL.of d8⟩,_,rfl,dl,hs,ov,rfl,rfl,SqL.of d8,_,rfl,_,rfl,q,_,ov,_,rfl,rfl,q8,hat ov hor.1 h0',_,_,rfl,rfl,_,rfl,hR⟩
   refine cR (fun c=>?_) (fun c=>?_)
   ·refine ⟨_,rfl,hsz,⟨_,rfl⟩,rfl,?_⟩
    rw [etake,Jr,Qy]
    congr 1
    rw [Xl (p:=fun o=>decide (o < n) && decide (((hs.count o:Nat):Int) < rs.getD o.toNat 0)) (a:=ov) c]
    rfl
   ·refine ⟨⟨_,rfl⟩,rfl,?_⟩
    rw [etake,Jr,Xm (p:=fun o=>decide (o < n) && decide (((hs.count o:Nat):Int) < rs.getD o.toNat 0)) (a:=ov) c]
    rw [List.filter_nil,Zr]
  ·rintro zs' H8 ⟨rfl,rfl⟩ lp hlp
   rw [hfl,Xk]
   generalize hfree:(os.filter fun o=>decide (o < n) && decide (((hs.count o:Nat):Int) < rs.getD o.toNat 0))=free
   have nlf:fdp≠lp:=fun z=>by rw [<- z,aC] at hlp; cases hlp
   have hlp7:H7 lp=none:=by rw [aK (Ne.symm nlf)] at hlp; exact hlp
   refine ⟨fdp,o,fs,by rw [aK nlf,aC],nf,?_⟩
   have s8:aF H7 (upd (upd (upd H7 fdp (.frz o (.dK fs))) lp (.lst (free.map V.int))) fdp (.dK fs)):=fun b u hb=>by
    by_cases hbf:b=fdp
    ·rw [hbf] at hb ⊢
     rw [aC,<- e7]; exact hb
    ·rw [aK hbf,aK (fun z=>by rw [z,hlp7] at hb; cases hb),aK hbf]
     exact hb
   have l8:(upd (upd (upd H7 fdp (.frz o (.dK fs))) lp (.lst (free.map V.int))) fdp (.dK fs)) lp=some (.lst (free.map V.int)):=by
    rw [aK (Ne.symm nlf),aC]
   generalize upd (upd (upd H7 fdp (.frz o (.dK fs))) lp (.lst (free.map V.int))) fdp (.dK fs)=H8 at s8 l8 ⊢
   have s08:=s07.trans s8
   have e8:=s8 _ _ e7
   have d8:=s8 _ _ d7
   have T8:=T7.tp (Tp.of s8)
   refine ⟨_,rfl,lp,_,rfl,.inl (SqL.of l8),rfl,_,rfl,?_⟩
   rw [tI,Qb]
   refine cR (fun c=>?_) (fun c=>?_)
   ·have hf0:free = []:=by
     cases free with
     | nil=>rfl
     | cons _ _ =>
      have:=eq_of_beq c
      rw [Jk] at this
      omega
    have hful:∀ h∈os,0<=h->h < n->((hs.count h:Nat):Int)=rs.getD h.toNat 0:=fun h ho h0 h1=>by
     rw [hf0] at hfree
     have h2:=Yk.mp hfree h ho
     rw [Qv,decide_eq_true_iff,decide_eq_true_iff] at h2
     have h3:=hle h h0 h1
     have:¬ ((hs.count h:Nat):Int) < rs.getD h.toNat 0:=fun z=>h2 ⟨h1,z⟩
     omega
    have htold:ToldR n ws rs (jI n hs) (mQ n os):=by
     refine ⟨⟨by unfold jI; rw [Qb]; exact hh.1,fun j h l e1 e2=>?_,fun i hi=>?_⟩,aA3 n os,fun x hx=>(qV.mp hx).1,?_⟩
     ·unfold jI at e1
      rw [Qh] at e1
      cases e3:hs[j]? with
      | none=>rw [e3] at e1; cases e1
      | some y =>
       rw [e3] at e1
       have e4:(if y < n then some y else none)=some h:=Option.some.inj e1
       by_cases hy:y < n
       ·rw [if_pos hy] at e4
        have:=Option.some.inj e4
        subst this
        rcases hh.2 j y e3 with e5 | ⟨l',e5,e6⟩
        ·omega
        ·rw [e2] at e5; cases e5; exact e6
       ·rw [if_neg hy] at e4; cases e4
     ·have hin:(i:Int) < n:=by have:=hro.1; omega
      rw [aA4 hin]
      have:=hle i (by omega) hin
      rwa [Jg] at this
     ·rw [aA5 fun h hm=>by have:=hrng h hm; omega]
      exact aDt (by omega) hwk hh C7 hnos hful
    refine ⟨_,rfl,n,rfl,by omega,by omega,iW (lo:=0) (n:=n.toNat) (fun σ=>∃ v,σ = [v,some (.ref fdp)]) (fun i zs H9=>H9=H8/\zs=(((cV n.toNat).take i).filter fun h=>decide (h∈os)).map V.int) (eM (by omega)) ⟨_,rfl⟩ ⟨rfl,rfl⟩ (fun i zs H9 z=>?_) ?_ ?_⟩
    ·rw [z.2,Qb]
     exact Qx (Zb _ _) (by rw [Jd]; omega)
    ·rintro i zs' σ H9 hi ⟨v,rfl⟩ ⟨rfl,rfl⟩ hsz
     rw [show (0:Int)+(i:Int)=(i:Int) by omega]
     have hu:(cV n.toNat)[i]?=some (i:Int):=by unfold cV; rw [Qh,Zu hi]; rfl
     have etake:(cV n.toNat).take (i+1)=(cV n.toNat).take i++[(i:Int)]:=by rw [Jz,hu]; rfl
     refine ⟨_,rfl,_,rfl,fdp,_,rfl,nH.k (k:=.inl (i:Int)) e8,_,rfl,?_⟩
     rw [oN T8.keys]
     refine cR (fun c=>?_) (fun c=>?_)
     ·refine ⟨_,rfl,hsz,⟨_,rfl⟩,rfl,?_⟩
      rw [etake,Jr,Qy,Xl (p:=fun h=>decide (h∈os)) (a:=(i:Int)) c]
      rfl
     ·refine ⟨⟨_,rfl⟩,rfl,?_⟩
      rw [etake,Jr,Xm (p:=fun h=>decide (h∈os)) (a:=(i:Int)) c,List.filter_nil,Zr]
    ·rintro zs' H9 ⟨rfl,rfl⟩ lq hlq
     rw [Jn (show (cV n.toNat).length<=n.toNat by unfold cV; rw [Qb,Zl]; exact Qi _)]
     show _
     refine ⟨lq,_,rfl,.inl ⟨SqL.of aC,fun sp hsp=>?_⟩⟩
     have s9:=(aF.new (o:=.lst ((mQ n os).map V.int)) hlq).trans (aF.new (o:=.tup ((mQ n os).map V.int)) hsp)
     have p9:upd (upd H9 lq (.lst ((mQ n os).map V.int))) sp (.tup ((mQ n os).map V.int)) sp=some (.tup ((mQ n os).map V.int)):=aC
     have d9:=s9 _ _ d8
     have s09:=s08.trans s9
     unfold mQ at htold p9 s9 d9 s09
     generalize ((cV n.toNat).filter fun h=>decide (h∈os))=ls at htold p9 s9 d9 s09 ⊢
     generalize upd (upd H9 lq (.lst (ls.map V.int))) sp (.tup (ls.map V.int))=H10 at p9 s9 d9 s09 ⊢
     refine ⟨_,rfl,dl,rfl,⟨_,SqL.of d9⟩,sE (K:=K) (a:=dl) (xs:=hs.map V.int) (fun σ=>∃ v,σ = [v,some (.int n)]) (fun i zs H11=>H11=H10/\zs=(jI n (hs.take i)).map oV) (eM (by rw [Qb,hh.1]; omega)) ⟨_,rfl⟩ ⟨rfl,rfl⟩ (fun i zs H11 z=>?_) (fun i zs H11 z=>by rw [z.1]; exact SqL.of d9) ?_ ?_⟩
     ·rw [z.2,Qb]
      unfold jI
      rw [Qb,Jd]; omega
     ·rintro i zs' σ y H11 hy ⟨v,rfl⟩ ⟨rfl,rfl⟩ hsz
      rw [Qh] at hy
      obtain ⟨t,ht,rfl⟩:∃ t,hs[i]?=some t/\V.int t=y:=by
       cases z:hs[i]? with
       | none=>rw [z] at hy; cases hy
       | some t=>rw [z] at hy; exact ⟨t,rfl,Option.some.inj hy⟩
      have etake:jI n (hs.take (i+1))=jI n (hs.take i)++[if t < n then some t else none]:=by
       unfold jI
       rw [Jz,ht,Qy]; rfl
      refine jD ?_
      refine ⟨_,rfl,_,rfl,_,_,rfl,rfl,_,rfl,?_⟩
      refine cR (fun c=>?_) (fun c=>?_)
      ·refine ⟨_,rfl,hsz,⟨_,rfl⟩,rfl,?_⟩
       rw [etake,if_pos (of_decide_eq_true c),Qy]
       rfl
      ·refine ⟨hsz,⟨_,rfl⟩,rfl,?_⟩
       rw [etake,if_neg (fun z=>c (decide_eq_true z)),Qy]
       rfl
     ·rintro zs' H11 ⟨rfl,rfl⟩ lr hlr'
      rw [Jn (show hs.length<=(hs.map V.int).length by rw [Qb]; exact Qi _)]
      refine ⟨lr,_,rfl,.inl ⟨SqL.of aC,fun dp hdp=>?_⟩⟩
      have s12:=(aF.new (o:=.lst ((jI n hs).map oV)) hlr').trans (aF.new (o:=.tup ((jI n hs).map oV)) hdp)
      have p12:upd (upd H11 lr (.lst ((jI n hs).map oV))) dp (.tup ((jI n hs).map oV)) dp=some (.tup ((jI n hs).map oV)):=aC
      generalize upd (upd H11 lr (.lst ((jI n hs).map oV))) dp (.tup ((jI n hs).map oV))=H12 at s12 p12 ⊢
      refine ⟨_,rfl,sz2 _ _,fun p hp=>?_⟩
      have s13:=aF.new (o:=.tup [.ref dp,.ref sp]) hp
      exact k p dp sp _ ls _ (s1.trans (s09.trans (s12.trans s13))) aC (s13 _ _ p12) ((s12.trans s13) _ _ p9) htold
   ·cases free with
    | nil=>exact absurd rfl c
    | cons t0 fr =>
     have ht0:t0∈os/\t0 < n/\((hs.count t0:Nat):Int) < rs.getD t0.toNat 0:=by
      have:=Zq.mp (show t0∈os.filter _ by rw [hfree]; exact Qo ..)
      rw [Qv,decide_eq_true_iff,decide_eq_true_iff] at this
      exact this
     obtain ⟨jl,hjl⟩:=Ji.mp ht0.1
     have hj0:0 < jl:=by
      rcases Nat.eq_zero_or_pos jl with z | z
      ·rw [z,T7.head] at hjl
       have:=Option.some.inj hjl
       omega
      ·exact z
     refine ⟨_,rfl,_,rfl,lp,_,0,.int t0,rfl,rfl,SqL.of l8,eZ (j:=0) rfl,fdp,t0,fs,os,n,n+1,ws,hs,jl,rfl,e8,T8,by omega,hjl,fun sp H9 ps ss s9 hsp hps S9 P9 N9 in9 ne9=>?_⟩
     have s09:=s08.trans s9
     have d9:=s9 _ _ d8
     have ndl:dl≠sp:=fun z=>by rw [z,hsp] at d8; cases d8
     have hlt:∀ s∈ss,s.1 < hs.length:=fun s hs'=>by
      obtain ⟨h1,_⟩:=lX P9 s hs'
      exact (Qc.mp h1).1
     refine ⟨sp,rfl,⟨_,SqL.of hps⟩,jO (K:=K) (a:=sp) (xs:=ps.map V.ref) (fun j σ H10=>∃ (v7 v8 v9:Option V),σ = [some (.ref a),some (.ref q),some (.int n),some (.ref b),some (.ref dl),some (.ref fdp),some (.ref lp),v7,v8,v9,v10]/\aF H1 H10/\H10 sp=some (.lst (ps.map V.ref))/\StepsAt H10 ps ss/\H10 dl=some (.lst ((gX hs (ss.take j)).map V.int)))
      ⟨_,_,_,rfl,s09,hps,S9,d9⟩ (fun j σ H10 _ ⟨_,_,_,_,_,h,_⟩=>SqL.of h) ?_ ?_⟩
     ·rintro j pv σ H10 hpv ⟨v7,v8,v9,rfl,s10,p10,S10,e10⟩
      rw [Qh] at hpv
      obtain ⟨p,hp,rfl⟩:∃ p,ps[j]?=some p/\V.ref p=pv:=by
       cases z:ps[j]? with
       | none=>rw [z] at hpv; cases hpv
       | some p=>rw [z] at hpv; exact ⟨p,rfl,Option.some.inj hpv⟩
      have hjs:j < ss.length:=by rw [<- S10.len]; exact (Qc.mp hp).1
      have es:ss[j]?=some ss[j]:=Qd hjs
      generalize ss[j]=s at es
      have hp10:=S10.at_ j p s hp es
      have hsl:=hlt s (Qj es)
      refine ⟨p,_,rfl,SqT.of hp10,rfl,_,_,rfl,_,_,rfl,_,_,rfl,rfl,?_⟩
      refine ⟨_,rfl,_,rfl,_,rfl,dl,_,(s.1:Int),s.1,rfl,rfl,e10,?_,?_⟩
      ·have:=aEG (n:=((gX hs (ss.take j)).map V.int).length) (k:=(s.1:Int)) (by omega) (by rw [Qb,nM]; omega)
       rwa [Jg] at this
      ·refine ⟨_,_,_,rfl,s10.wr hdl1,by rw [aK (Ne.symm ndl)]; exact p10,S10.tp (Tp.upd fun xs z=>by rw [e10] at z; cases z),?_⟩
       rw [aC,Jz,es]
       show _=some (HO.lst ((gX hs (ss.take j++[s])).map V.int))
       rw [yS,List.map_set]
     ·rintro σ H10 ⟨v7,v8,v9,rfl,s10,p10,S10,e10⟩
      rw [Qb,S10.len,Xk] at e10
      have gc:=qQ ss P9 N9
      have hcn:=gc n
      rw [if_pos rfl,if_neg (show ¬ n=t0 by omega)] at hcn
      refine ⟨_,by show (gX hs ss).count n < hs.count n; omega,_,_,_,_,_,_,gX hs ss,rfl,rfl,s10,e10,⟨by rw [nM]; exact hh.1,sU ss hs hh.2 fun s hs'=>?_⟩,fun h h0 h1=>?_⟩
      ·obtain ⟨_,l,e1,e2,_⟩:=lX P9 s hs'
       exact .inr ⟨l,e1,e2⟩
      ·have g1:=gc h
       rw [if_neg (show ¬ h=n by omega)] at g1
       have g2:=hle h h0 h1
       have g3:=ht0.2.2
       by_cases e:h=t0
       ·rw [if_pos e] at g1
        rw [<- e] at g3
        omega
       ·rw [if_neg e] at g1
        omega
def cnt (hs:List Int) (h:Int):Int:=((hs.count h:Nat):Int)
def xC (f:Int->Int):List Int->Int
 | []=>0
 | x::r=>if r.all (fun y=>decide (f x<=f y)) then x else xC f r
theorem aAp {f:Int->Int}:∀ {ns:List Int} {j:Nat} {m:Int},ns[j]?=some m->(∀ n∈ns,f m<=f n)->(∀ (l:Nat) (n:Int),l < j->ns[l]?=some n->f m < f n)->xC f ns=m
 | [],j,m,h,_,_=>by simp at h
 | x::r,0,m,h,h1,_=>by
  have e:x=m:=by simpa using h
  subst e
  unfold xC
  rw [if_pos (Ja.mpr fun y hy=>decide_eq_true (h1 y (Qm _ hy)))]
 | x::r,j+1,m,h,h1,h2=>by
  have h':r[j]?=some m:=by simpa using h
  have hx:=h2 0 x (by omega) rfl
  unfold xC
  rw [if_neg (fun z=>by have:=of_decide_eq_true (Ja.mp z m (Qj h')); omega)]
  exact aAp h' (fun n hn=>h1 n (Qm _ hn)) fun l n hl hn=>h2 (l+1) n (by omega) (by simpa using hn)
def mS (hs:List Int) (l:List Int):List Int:=hs++[xC (cnt hs) l]
def fY (ws:List (List Int)):List Int:=ws.foldl mS []
theorem xD (ws:List (List Int)) (l:List Int):fY (ws++[l])=fY ws++[xC (cnt (fY ws)) l]:=by
 unfold fY
 rw [List.foldl_append]
 rfl
theorem xE {ws:List (List Int)} {i:Nat} {l:List Int} (h:ws[i]?=some l):fY (ws.take (i+1))=fY (ws.take i)++[xC (cnt (fY (ws.take i))) l]:=by
 rw [Jz,h]
 exact xD _ _
theorem yT:∀ (us:List (List Int)),(fY us).length=us.length:=by
 have:∀ (us:List (List Int)) (hs:List Int),(us.foldl mS hs).length=hs.length+us.length:=by
  intro us
  induction us with
  | nil=>intro hs; rfl
  | cons l us ih =>
   intro hs
   show (us.foldl mS (mS hs l)).length=_
   rw [ih]
   unfold mS
   simp only [Qs,Jk,Xz]
   omega
 intro us
 have h:=this us []
 rw [Xz,Nat.zero_add] at h
 exact h
def yU:Str:=("as_they_come" : Str) ++ ".<locals>." ++ "<lambda>"
theorem aCk {n:Int} {hs:List Int} {h:Int} (h0:0<=h) (h1:h < n):(cL n hs)[h.toNat]?=some (cnt hs h):=by
 rw [jG (by omega),show ((h.toNat:Nat):Int)=h by omega]
 rfl
def aCl (K:PySem.W.Frag) (Pt:Addr):Sp:=fun vs H Q _=>∃ (x:V) (n:Int) (ws:List (List Int)),vs = [x]/\Den K H (bY n ws) x/\bN (bY n ws)=true/\H Pt=some (.tab yU)/\∀ (p:Addr) H',aF H H'->H' p=some (.tup ((fY ws).map V.int))->Q (.ref p) H'
theorem nN:FnScope ["book", "many", "deal", "able", "hand"] ["book"] (aO wL):=⟨rfl,rfl,rfl,by decide +kernel,rfl,by decide +kernel,by decide +kernel⟩
theorem aDu {f c Pt:Addr} {fd:FuncData} (G:Fn K mg "as_they_come" wL ["book"] f fd) (hc:fd.code=.ref c) (Z:Lm K mg base c Pt) (B:Bl mg) (R:Pr K mg fW fH fK fB fNB dW dH dK dB dNB):FnOk P w K mg base CX0 5 f fd ["book"] (aCl K Pt):=by
 have ONB:FnOk P w K mg base CX0 4 fNB dNB ["book"] (oM K):=qI B R
 refine G.fn.okC hc nN (fun vs H Q E h=>?_) (fun A outer s H vs Q E hr h=>?_)
 ·obtain ⟨x,n,ws,rfl,_⟩:=h
  rfl
 ·obtain ⟨x,n,ws,rfl,hx,hbk,hT,k⟩:=h
  have r4:Room 4 _:=hr
  have r1:Room 1 _:=hr.mono (by decide)
  refine ⟨_,(aG (bV (bI R.NB ONB r4 rfl (aA (pv 0) aE)))
  (aG (aX (i:=1) nN.nd rfl (Or.inr rfl) (bB aBp (dE (aA aH aE)) (bO eA (pv 0) aH (fun _ _=>rfl))))
  (aG (aX (i:=2) nN.nd rfl (Or.inl rfl) (dE aE))
  (aG (eP PassesOwn.never rfl (iC (bO eA (pv 0) aH (fun _ _=>rfl))) (aS (i:=3) nN.nd rfl (Or.inl rfl))
   (aG (aX (i:=4) nN.nd rfl (Or.inl rfl) (aAS 1 rfl r1 rfl B.min Z rfl (q:=yU) rfl (pv 3) rfl rfl))
  (aG (aCI (pv 1) (pv 4) aB4 aH aD7 jT)
  (aL (bV (nU PySem.F.plainAttrs_list PySem.F.slot_list_append PySem.F.type_list_append gM (pv 2) (aA (pv 4) aE)))))))
  (aL (bA (cA cI rfl B.tuple cP (aA (pv 2) aE)))))))),?_⟩
  obtain ⟨hn1,hn6,hw12,hws⟩:=cK hbk
  refine ⟨_,rfl,x,bY n ws,rfl,hx,hbk,fun H1 s1=>?_⟩
  obtain ⟨a,b,ys,rfl,ha,hb2,hys⟩:=eJ (s1.den _ _ hx)
  have hlw:=aN hys
  rw [Qb] at hlw
  refine ⟨sz1 _,fun z hz=>⟨_,rfl,a,_,0,.int n,rfl,rfl,(aF.new hz).seqT ha,rfl,z,n,_,rfl,rfl,aC,by omega,by omega,eM (by simp; omega),fun mp hmp=>?_⟩⟩
  have s2:=s1.trans (aF.new (o:=.lst [V.int 0]) hz)
  have s12:=aF.new (o:=.lst [V.int 0]) hz
  generalize upd H1 z (.lst [V.int 0])=H2 at s2 s12 hmp ⊢
  rw [yQ]
  have hmp0:H1 mp=none:=s12.free hmp
  have s13:=s12.trans (aF.new (o:=.lst ((cL n []).map V.int)) hmp)
  have m3:upd H2 mp (.lst ((cL n []).map V.int)) mp=some (.lst ((cL n []).map V.int)):=aC
  generalize upd H2 mp (.lst ((cL n []).map V.int))=H3 at s13 m3 ⊢
  refine ⟨eM (show 0<=1000 by decide),fun dl hdl=>?_⟩
  have hdl0:H1 dl=none:=s13.free hdl
  have nmd:mp≠dl:=fun z=>by rw [z,hdl] at m3; cases m3
  have s14:=s13.trans (aF.new (o:=.lst []) hdl)
  have m4:=(aF.new (o:=.lst []) hdl) _ _ m3
  have d4:upd H3 dl (.lst []) dl=some (.lst []):=aC
  generalize upd H3 dl (.lst [])=H4 at s14 m4 d4 ⊢
  refine ⟨_,rfl,a,_,1,.ref b,rfl,rfl,s14.seqT ha,rfl,b,rfl,⟨_,s14.seqT hb2⟩,tG (K:=K) (a:=b) (xs:=ys) (fun i σ H5=>∃ (v3 v4:Option V),σ = [some (.ref a),some (.ref mp),some (.ref dl),v3,v4]/\aF H1 H5/\H5 mp=some (.lst ((cL n (fY (ws.take i))).map V.int))/\H5 dl=some (.lst ((fY (ws.take i)).map V.int)))
   ⟨_,_,rfl,s14,m4,d4⟩ (fun i σ H5 _ ⟨_,_,_,s5,_⟩=>s5.seqT hb2) ?_ ?_⟩
  ·rintro i u σ H5 hu ⟨v3,v4,rfl,s5,m5,d5⟩
   obtain ⟨dv,hdv,denv⟩:=cC hys hu
   rw [Qh] at hdv
   obtain ⟨l,hl,rfl⟩:∃ l,ws[i]?=some l/\cT l=dv:=by
    cases q:ws[i]? with
    | none=>rw [q] at hdv; cases hdv
    | some l=>rw [q] at hdv; exact ⟨l,rfl,Option.some.inj hdv⟩
   obtain ⟨aw,rfl,haw⟩:=cM.mp denv
   obtain ⟨l0,l1,l2⟩:=eT (hws l (Qj hl))
   have hi12:i < 12:=by have:=(Qc.mp hl).1; omega
   have hgl:(fY (ws.take i)).length=i:=by rw [yT,Jd]; have:=(Qc.mp hl).1; omega
   rw [xE hl]
   generalize fY (ws.take i)=hs at m5 d5 hgl
   refine ⟨_,rfl,l,fun o=>cnt hs o,.ref mp,⟨aw,rfl,.inr (.inl (s5.seqT haw))⟩,List.length_pos_iff.mpr l0,(s1.trans s5) _ _ hT,rfl,fun o ho=>?_,fun j m H6 s6 hj hmin hfst=>?_⟩
   ·obtain ⟨o0,o1⟩:=l1 o ho
    refine ⟨o0,by omega,mp,_,rfl,.inr (SqL.of m5),?_⟩
    rw [Qh,aCk o0 o1]
    rfl
   have em:xC (cnt hs) l=m:=aAp hj hmin hfst
   obtain ⟨q0,q1⟩:=l1 m (Qj hj)
   have m6:=s6 _ _ m5
   have d6:=s6 _ _ d5
   have hix:ixN ((cL n hs).map V.int).length m=some m.toNat:=by
    rw [Qb,gB]
    unfold ixN
    rw [if_pos q0,if_pos (by omega)]
   refine ⟨_,rfl,_,rfl,mp,_,m,.int (cnt hs m),rfl,rfl,SqL.of m6,q0,by rw [Qh,aCk q0 q1]; rfl,?_⟩
   refine ⟨_,_,rfl,rfl,mp,_,m,m.toNat,rfl,rfl,m6,hix,?_⟩
   have e7:((cL n hs).map V.int).set m.toNat (.int (cnt hs m+1))=(cL n (hs++[m])).map V.int:=wU q0 q1
   rw [e7]
   have s7:=(s5.trans s6).wr (u:=.lst ((cL n (hs++[m])).map V.int)) hmp0
   have m7:upd H6 mp (.lst ((cL n (hs++[m])).map V.int)) mp=some (.lst ((cL n (hs++[m])).map V.int)):=aC
   have d7:upd H6 mp (.lst ((cL n (hs++[m])).map V.int)) dl=some (.lst (hs.map V.int)):=by rw [aK (Ne.symm nmd)]; exact d6
   generalize upd H6 mp (.lst ((cL n (hs++[m])).map V.int))=H7 at s7 m7 d7 ⊢
   refine ⟨_,rfl,.inl ⟨rfl,_,SqL.of d7⟩,_,rfl,dl,_,_,rfl,rfl,d7,by rw [Qb,sizeLine_eq]; omega,?_⟩
   refine ⟨_,_,rfl,s7.wr hdl0,by rw [aK nmd,em]; exact m7,by rw [aC,Qy,em]; rfl⟩
  ·rintro σ H5 ⟨v3,v4,rfl,s5,m5,d5⟩
   rw [Jn (show ws.length<=ys.length by omega)] at d5
   refine ⟨_,rfl,dl,_,rfl,.inl ⟨SqL.of d5,fun p hp=>?_⟩⟩
   exact k p _ (s1.trans (s5.trans (aF.new hp))) aC
end
end Ab
namespace L2
open PySem PySem.Spec PyProof.Rows
section
variable {P:Program} {w:World} {K:PySem.W.Frag} {mg:Str->Option Value} {base:Heap} {k:Nat} {f:Addr} {fd:FuncData} {ps:List Str} {sp sp':Sp} {CX:CXT}
theorem FnOk.cx1 (F:FnOk P w K mg base CX0 k f fd ps sp):FnOk P w K mg base (CX1 P w) k f fd ps sp :=
 ⟨F.len,fun A outer s H args us vs Q E hr he hb hv hs=>codeAny_mono (F.run A outer s H args us vs Q E hr he hb hv hs) fun r s' q=>by
  cases r with
  | error e=>exact False.elim q
  | ok fl=>cases fl <;> exact q⟩
def aA6 (a b:Sp):Sp:=fun vs H Q E=>a vs H Q E∨b vs H Q E
theorem FnOk.or (F:FnOk P w K mg base CX k f fd ps sp) (F':FnOk P w K mg base CX k f fd ps sp'):FnOk P w K mg base CX k f fd ps (aA6 sp sp') :=
 ⟨fun vs H Q E h=>h.elim (F.len vs H Q E) (F'.len vs H Q E),fun A outer s H args us vs Q E hr he hb hv hs=>hs.elim (F.run A outer s H args us vs Q E hr he hb hv) (F'.run A outer s H args us vs Q E hr he hb hv)⟩
end
theorem iH {X:Cx} {x:Str} {st:Stmt} {ps:List Str} {f:Addr} {fd:FuncData} {k:Nat} {sp:Sp} {E:XK} {p pos:Pos} {e:Expr} {es:List Expr} {t:TA} (G:Fn X.K X.mg x st ps f fd) (ok:FnOk X.prog X.w X.K X.mg X.base (CX1 X.prog X.w) k f fd ps sp) (hr:Room k X.A) (hg:Gl X x) (hp:mW (CX1 X.prog X.w) X E) (ha:PA X (e::es) t)
  (hdb:(x==("__debug__" : Str))=false:=by decide) (he:starEach (e::es) X.env=(false,eval e X.env)::starEach es X.env:=by rfl) (hpl:(backTo pos (starEach es X.env)).any (·.1)=false:=by rfl) :
  PE X (.Call (.Name x p) (e::es) [] pos) (rR sp [] E t):=zI ok hr hg G.mgx G.kp G.bd .nil hp ha hdb he hpl
end L2
namespace Ab
open PySem L2
def dY:PyData->Bool
 | .int i=>decide (0<=i) && decide (i<=12)
 | _=>false
def jJ (n:Int):PyData->Bool
 | .tuple ds=>decide (ds.length=n.toNat) && ds.all dY
 | _=>false
section
variable {P:Program} {w:World} {K:PySem.W.Frag} {mg:Str->Option Value} {base:Heap}
variable {fW fH fK fB fNB:Addr} {dW dH dK dB dNB:FuncData} {CB CR:Addr} {bmB bmR:List Value}
structure Rf (K:PySem.W.Frag) (mg:Str->Option Value) (CB CR:Addr) (bmB bmR:List Value):Prop where
 mB:mg "NoBook" = some (.ref CB)
 mR:mg "NoRooms" = some (.ref CR)
 eB:∀ h:Heap,K.In h->EcH h CB bmB
 eR:∀ h:Heap,K.In h->EcH h CR bmR
def kN (K:PySem.W.Frag) (CB:Addr):Sp:=fun vs H _ E=>∃ x d,vs = [x]/\Den K H d x/\bN d=false/\∀ H',aF H H'->E (.ref CB) none H'
theorem sV (B:Bl mg) (R:Pr K mg fW fH fK fB fNB dW dH dK dB dNB) (Z:Rf K mg CB CR bmB bmR):FnOk P w K mg base (CX1 P w) 4 fNB dNB ["book"] (kN K CB):=by
 have OB:FnOk P w K mg base CX0 3 fB dB ["thing"] (uF K):=wP R.B B R.W R.H R.Kw
 refine R.NB.fn.okX aAh (fun vs H Q E h=>?_) (fun cdv A outer s H vs Q E hr h=>?_)
 ·obtain ⟨x,d,rfl,_⟩:=h
  rfl
 ·obtain ⟨x,d,rfl,hd,hb,k⟩:=h
  refine ⟨_,aL (bW (dZ (cZ (bI R.B OB hr rfl (aA (pv 0) aE)))) (aL (vR Z.eB rfl Z.mB rfl (fun _ _ _ _ _ _ _ I m q=>zT I m q))) bH),?_⟩
  refine ⟨_,rfl,x,d,rfl,hd,fun H' hs=>⟨_,rfl,?_⟩⟩
  rw [hb]
  refine eD ?_
  exact k H' hs
def xF (K:PySem.W.Frag):Sp:=fun vs H Q _=>∃ (x y:V) (n:Int) (ws:List (List Int)) (d:PyData),vs = [x,y]/\Den K H (bY n ws) x/\bN (bY n ws)=true/\Den K H d y/\(∀ ds,d=.tuple ds->ds.length<=1000)/\∀ H',aF H H'->Q (.bl (jJ n d)) H'
theorem aA7 {f:Addr} {fd:FuncData} (G:Fn K mg "are_rooms" fP ["book", "thing"] f fd) (B:Bl mg) (R:Pr K mg fW fH fK fB fNB dW dH dK dB dNB):FnOk P w K mg base CX0 5 f fd ["book", "thing"] (xF K):=by
 have ONB:FnOk P w K mg base CX0 4 fNB dNB ["book"] (oM K):=qI B R
 have OW:FnOk P w K mg base CX0 1 fW dW ["thing"] (jC K):=iP R.W B
 refine G.fn.ok uO (fun vs H Q E h=>?_) (fun cdv A outer s H vs Q E hr h=>?_)
 ·obtain ⟨x,y,n,ws,d,rfl,_⟩:=h
  rfl
 ·obtain ⟨x,y,n,ws,d,rfl,hx,hb,hd,hsz,k⟩:=h
  obtain ⟨t12,h12⟩:=B.mr
  have r4:Room 4 _:=hr
  have r1:Room 1 _:=hr.mono (by decide)
  refine ⟨_,(aG (bV (bI R.NB ONB r4 rfl (aA (pv 0) aE)))
  (aG (bW (PW.pt (iI (dZ (cZ (aT cS rfl B.isinstance lK (aA (pv 1) (aA (gI (v:=.ty "tuple") rfl B.tuple cP rfl) aE))))) (gE (aW lE (aT bC rfl B.len gD (aA (pv 1) aE)) (bO eA (pv 0) aH (fun _ _=>rfl)) (bD _)))))
   (aL (bA eX))
   bH)
  (aL (bA (aT (jY rfl) rfl B.all wJ (aA (dX (own:=["room"]) (fr:=[]) (frn:=[]) (bT (aO fP) ["book", "thing"] rfl rfl (by decide +kernel)) rfl (iC (pv 1))
    (fun _ _ _ _=>(aS (i:=0) (show (["room"]:List Str).Nodup by decide +kernel) rfl (Or.inl rfl))) (fun _ _ _ _=>iE)
    (fun _ _ _ _=>(tE (bI R.W OW r1 rfl (aA (pv 0) aE)) (tD (oW nR nR aH (pv 0) (lY (v:=.int 12) rfl h12 ⟨t12,rfl⟩)))))) aE)))))),?_⟩
  obtain ⟨hn1,hn6,hw12,hws⟩:=cK hb
  refine ⟨_,rfl,x,_,rfl,hx,hb,fun H1 s1=>?_⟩
  obtain ⟨a,b,ys,rfl,ha,hb2,hys⟩:=eJ (s1.den _ _ hx)
  have hd1:=s1.den _ _ hd
  refine ⟨_,rfl,y,iU d,rfl,hd1.kd,_,rfl,?_⟩
  cases d with
  | tuple ds =>
   refine eQ ?_
   obtain ⟨q,xs,rfl,hq1,hxs⟩:=bE.mp hd1
   have hxl:=aN hxs
   refine ⟨_,rfl,q,_,rfl,.inr hq1,_,rfl,a,_,0,.int n,rfl,rfl,ha,rfl,rfl,_,rfl,?_⟩
   by_cases hl:ds.length=n.toNat
   ·rw [show (!decide (V.int (xs.length:Int)=V.int n))=false by rw [hxl,hl,show ((n.toNat:Nat):Int)=n by omega]; simp]
    refine eQ ?_
    have hz:=hsz ds rfl
    refine ⟨_,rfl,q,rfl,⟨_,hq1⟩,kE (K:=K) (a:=q) (xs:=xs) (vs:=(ds.map dY).map V.bl) (fun σ=>∃ v,σ = [v]) (by omega) (by rw [Qb,Qb,hxl]) hq1 ⟨none,rfl⟩ ?_ ?_⟩
    ·rintro i xv v σ H2 hxv hv ⟨v0,rfl⟩ s2 Q' hQ'
     obtain ⟨di,hdi,hden⟩:=cC hxs hxv
     rw [Qh,Qh,hdi] at hv
     obtain rfl:V.bl (dY di)=v:=Option.some.inj hv
     refine ⟨_,rfl,xv,di,rfl,s2.den _ _ hden,_,rfl,?_⟩
     cases di with
     | int r =>
      refine eD ?_
      rw [bQ.mp hden]
      refine ⟨_,rfl,_,_,rfl,rfl,_,rfl,?_⟩
      show _
      by_cases r0:(0:Int)<=r
      ·rw [decide_eq_true r0]
       refine eD ?_
       refine ⟨_,_,rfl,rfl,?_⟩
       have e12:dY (.int r)=decide (r<=12):=by show (decide (0<=r) && decide (r<=12))=_; rw [decide_eq_true r0,Xg]
       rw [e12] at hQ'
       exact hQ' _ _ ⟨_,rfl⟩ (aF.refl _)
      ·rw [decide_eq_false r0]
       refine eQ ?_
       have e12:dY (.int r)=false:=by show (decide (0<=r) && decide (r<=12))=_; rw [decide_eq_false r0,Xw]
       rw [e12] at hQ'
       exact hQ' _ _ ⟨_,rfl⟩ (aF.refl _)
     | none=>exact eQ (hQ' _ _ ⟨_,rfl⟩ (aF.refl _))
     | bool _=>exact eQ (hQ' _ _ ⟨_,rfl⟩ (aF.refl _))
     | str _=>exact eQ (hQ' _ _ ⟨_,rfl⟩ (aF.refl _))
     | list _=>exact eQ (hQ' _ _ ⟨_,rfl⟩ (aF.refl _))
     | tuple _=>exact eQ (hQ' _ _ ⟨_,rfl⟩ (aF.refl _))
     | dict _=>exact eQ (hQ' _ _ ⟨_,rfl⟩ (aF.refl _))
    ·rintro H2 s2 z hz2
     refine ⟨z,_,rfl,SqL.of aC,?_⟩
     have e:jJ n (.tuple ds)=(ds.map dY).all id:=by
      show (decide (ds.length=n.toNat) && ds.all dY)=_
      rw [decide_eq_true hl,Xg,Zy]
      rfl
     rw [<- e]
     exact k _ ((s1.trans s2).trans (aF.new hz2))
   ·rw [show (!decide (V.int (xs.length:Int)=V.int n))=true by
     rw [decide_eq_false (fun z:V.int (xs.length:Int)=V.int n=>hl (by injection z with z; omega))]; rfl]
    refine eD ?_
    have e:jJ n (.tuple ds)=false:=by show (decide (ds.length=n.toNat) && ds.all dY)=_; rw [decide_eq_false hl,Xw]
    rw [e] at k
    exact k _ s1
  | none=>exact eD (k _ s1)
  | bool _=>exact eD (k _ s1)
  | str _=>exact eD (k _ s1)
  | list _=>exact eD (k _ s1)
  | int _=>exact eD (k _ s1)
  | dict _=>exact eD (k _ s1)
def Bad (K:PySem.W.Frag) (CB CR:Addr) (H:Hp) (x y:V) (C:Addr):Prop:=(∃ d,Den K H d x/\bN d=false/\C=CB)∨∃ n ws d,Den K H (bY n ws) x/\bN (bY n ws)=true/\Den K H d y/\(∀ ds,d=.tuple ds->ds.length<=1000)/\jJ n d=false/\C=CR
theorem Bad.same {H H':Hp} {x y:V} {C:Addr} (b:Bad K CB CR H x y C) (e:aF H H'):Bad K CB CR H' x y C:=by
 rcases b with ⟨d,h1,h2⟩ | ⟨n,ws,d,h1,h2,h3,h4⟩
 ·exact .inl ⟨d,e.den _ _ h1,h2⟩
 ·exact .inr ⟨n,ws,d,e.den _ _ h1,h2,e.den _ _ h3,h4⟩
def xG (K:PySem.W.Frag) (CB:Addr):Sp:=fun vs H _ E=>∃ x y d,vs = [x,y]/\Den K H d x/\bN d=false/\∀ H',aF H H'->E (.ref CB) none H'
theorem aA8 {f:Addr} {fd:FuncData} (G:Fn K mg "are_rooms" fP ["book", "thing"] f fd) (B:Bl mg) (R:Pr K mg fW fH fK fB fNB dW dH dK dB dNB) (Z:Rf K mg CB CR bmB bmR):FnOk P w K mg base (CX1 P w) 5 f fd ["book", "thing"] (xG K CB):=by
 have ON:FnOk P w K mg base (CX1 P w) 4 fNB dNB ["book"] (kN K CB):=sV B R Z
 refine G.fn.okX uO (fun vs H Q E h=>?_) (fun cdv A outer s H vs Q E hr h=>?_)
 ·obtain ⟨x,y,d,rfl,_⟩:=h
  rfl
 ·obtain ⟨x,y,d,rfl,hd,hb,k⟩:=h
  refine ⟨_,aG (bV (iH R.NB ON hr rfl lH (aA (pv 0) aE))) fX,?_⟩
  exact ⟨_,rfl,x,d,rfl,hd,hb,k⟩
def sW (K:PySem.W.Frag) (CB CR:Addr):Sp:=fun vs H _ E=>∃ x y C,vs = [x,y]/\Bad K CB CR H x y C/\∀ H',aF H H'->E (.ref C) none H'
theorem nO {f fA:Addr} {fd dA:FuncData} (G:Fn K mg "need_rooms" gU ["book", "rooms"] f fd) (B:Bl mg) (R:Pr K mg fW fH fK fB fNB dW dH dK dB dNB) (GAr:Fn K mg "are_rooms" fP ["book", "thing"] fA dA) (Z:Rf K mg CB CR bmB bmR):FnOk P w K mg base (CX1 P w) 6 f fd ["book", "rooms"] (sW K CB CR):=by
 have OAr:FnOk P w K mg base (CX1 P w) 5 fA dA ["book", "thing"] (aA6 (xG K CB) (xF K)):=(aA8 GAr B R Z).or (aA7 GAr B R).cx1
 refine G.fn.okX aAm (fun vs H Q E h=>?_) (fun cdv A outer s H vs Q E hr h=>?_)
 ·obtain ⟨x,y,C,rfl,_⟩:=h
  rfl
 ·obtain ⟨x,y,C,rfl,b,k⟩:=h
  refine ⟨_,aL (bW (dZ (cZ (iH GAr OAr hr rfl lH (aA (pv 0) (aA (pv 1) aE))))) (aL (vR Z.eR rfl Z.mR rfl (fun _ _ _ _ _ _ _ I m q=>zT I m q))) bH),?_⟩
  rcases b with ⟨d,h1,h2,rfl⟩ | ⟨n,ws,d,h1,h2,h3,h4,h5,rfl⟩
  ·exact ⟨_,rfl,_,rfl,.inl ⟨x,y,d,rfl,h1,h2,k⟩⟩
  ·refine ⟨_,rfl,_,rfl,.inr ⟨x,y,n,ws,d,rfl,h1,h2,h3,h4,fun H' s'=>⟨_,rfl,?_⟩⟩⟩
   rw [h5]
   refine eD ?_
   exact k H' s'
theorem aDv {f fN fA:Addr} {fd dN dA:FuncData} (G:Fn K mg "in_rooms" wK ["book", "rooms"] f fd) (B:Bl mg) (R:Pr K mg fW fH fK fB fNB dW dH dK dB dNB) (GNr:Fn K mg "need_rooms" gU ["book", "rooms"] fN dN) (GAr:Fn K mg "are_rooms" fP ["book", "thing"] fA dA) (Z:Rf K mg CB CR bmB bmR):FnOk P w K mg base (CX1 P w) 7 f fd ["book", "rooms"] (sW K CB CR):=by
 have ON:FnOk P w K mg base (CX1 P w) 6 fN dN ["book", "rooms"] (sW K CB CR):=nO GNr B R GAr Z
 refine G.fn.okX kM (fun vs H Q E h=>?_) (fun cdv A outer s H vs Q E hr h=>?_)
 ·obtain ⟨x,y,C,rfl,_⟩:=h
  rfl
 ·obtain ⟨x,y,C,rfl,b,k⟩:=h
  refine ⟨_,aG (bV (iH GNr ON hr rfl lH (aA (pv 0) (aA (pv 1) aE)))) fX,?_⟩
  exact ⟨_,rfl,_,rfl,x,y,C,rfl,b,k⟩
def aCm (K:PySem.W.Frag) (CB CR:Addr):Sp:=fun vs H _ E=>∃ x y z C,vs = [x,y,z]/\Bad K CB CR H x y C/\∀ H',aF H H'->E (.ref C) none H'
theorem aDw {f fN fA:Addr} {fd dN dA:FuncData} (G:Fn K mg "is_in_rooms" iO ["book", "rooms", "thing"] f fd) (B:Bl mg) (R:Pr K mg fW fH fK fB fNB dW dH dK dB dNB) (GNr:Fn K mg "need_rooms" gU ["book", "rooms"] fN dN) (GAr:Fn K mg "are_rooms" fP ["book", "thing"] fA dA) (Z:Rf K mg CB CR bmB bmR):FnOk P w K mg base (CX1 P w) 7 f fd ["book", "rooms", "thing"] (aCm K CB CR):=by
 have ON:FnOk P w K mg base (CX1 P w) 6 fN dN ["book", "rooms"] (sW K CB CR):=nO GNr B R GAr Z
 refine G.fn.okX aAo (fun vs H Q E h=>?_) (fun cdv A outer s H vs Q E hr h=>?_)
 ·obtain ⟨x,y,z,C,rfl,_⟩:=h
  rfl
 ·obtain ⟨x,y,z,C,rfl,b,k⟩:=h
  refine ⟨_,aG (bV (iH GNr ON hr rfl lH (aA (pv 0) (aA (pv 1) aE)))) fX,?_⟩
  exact ⟨_,rfl,_,rfl,x,y,C,rfl,b,k⟩
def aCn (K:PySem.W.Frag) (CB CR:Addr):Sp:=fun vs H _ E=>∃ x y z u C,vs = [x,y,z,u]/\Bad K CB CR H x y C/\∀ H',aF H H'->E (.ref C) none H'
theorem aDx {f fN fA:Addr} {fd dN dA:FuncData} (G:Fn K mg "do_bar" lT ["book", "rooms", "some", "number"] f fd) (B:Bl mg) (R:Pr K mg fW fH fK fB fNB dW dH dK dB dNB) (GNr:Fn K mg "need_rooms" gU ["book", "rooms"] fN dN) (GAr:Fn K mg "are_rooms" fP ["book", "thing"] fA dA) (Z:Rf K mg CB CR bmB bmR):FnOk P w K mg base (CX1 P w) 7 f fd ["book", "rooms", "some", "number"] (aCn K CB CR):=by
 have ON:FnOk P w K mg base (CX1 P w) 6 fN dN ["book", "rooms"] (sW K CB CR):=nO GNr B R GAr Z
 refine G.fn.okX uP (fun vs H Q E h=>?_) (fun cdv A outer s H vs Q E hr h=>?_)
 ·obtain ⟨x,y,z,u,C,rfl,_⟩:=h
  rfl
 ·obtain ⟨x,y,z,u,C,rfl,b,k⟩:=h
  refine ⟨_,aG (bV (iH GNr ON hr rfl lH (aA (pv 0) (aA (pv 1) aE)))) fX,?_⟩
  exact ⟨_,rfl,_,rfl,x,y,C,rfl,b,k⟩
theorem aCo {f:Addr} {fd:FuncData} (G:Fn K mg "as_they_come" wL ["book"] f fd) (B:Bl mg) (R:Pr K mg fW fH fK fB fNB dW dH dK dB dNB) (Z:Rf K mg CB CR bmB bmR):FnOk P w K mg base (CX1 P w) 5 f fd ["book"] (kN K CB):=by
 have ON:FnOk P w K mg base (CX1 P w) 4 fNB dNB ["book"] (kN K CB):=sV B R Z
 refine G.fn.okX nN (fun vs H Q E h=>?_) (fun cdv A outer s H vs Q E hr h=>?_)
 ·obtain ⟨x,d,rfl,_⟩:=h
  rfl
 ·obtain ⟨x,d,rfl,hd,hb,k⟩:=h
  refine ⟨_,aG (bV (iH R.NB ON hr rfl lH (aA (pv 0) aE))) fX,?_⟩
  exact ⟨_,rfl,x,d,rfl,hd,hb,k⟩
end
def nms:List Str:=["NoBook", "NoCosts", "NoDeal", "NoHand", "NoRooms", "NoRow", "NoText", "NoWay", "NoWeights", "NoWork", "TooMany"]
structure Cl (K:PySem.W.Frag) (mg:Str->Option Value) (cE:Addr) (c:Nat->Addr):Prop where
 mc:∀ (i:Nat) (n:Str),nms[i]?=some n->mg n=some (.ref (c i))
 ec:∀ i,i < 11->∀ h:Heap,K.In h->EcH h (c i) (.ref cE::vbm)
 inj:∀ i j,i < 11->j < 11->c i=c j->i=j
 ne:∀ i,i < 11->c i≠cE
 mE:mg "DealError" = some (.ref cE)
 eE:∀ h:Heap,K.In h->EcH h cE vbm
section
variable {P:Program} {w:World} {K:PySem.W.Frag} {mg:Str->Option Value} {base:Heap} {cE:Addr} {c:Nat->Addr}
theorem Cl.has (Z:Cl K mg cE c) {i j:Nat} (hi:i < 11) (hj:j < 11):(Value.ref (c j)::.ref cE::vbm).contains (.ref (c i))=decide (j=i):=by
 by_cases e:j=i
 ·subst e; simp
 ·have h1:(Value.ref (c i)==Value.ref (c j))=false:=by
   rw [beq_eq_false_iff_ne]
   intro z
   injection z with z
   exact e (Z.inj j i hj hi z.symm)
  have h2:(Value.ref (c i)==Value.ref cE)=false:=by
   rw [beq_eq_false_iff_ne]
   intro z
   injection z with z
   exact Z.ne i hi z
  rw [Zx,Zx,h1,h2,decide_eq_false e]
  rfl
theorem Cl.up (Z:Cl K mg cE c) {j:Nat}:(Value.ref (c j)::.ref cE::vbm).contains (.ref cE)=true:=by simp
def aFY (c:Nat->Addr) (i:Nat):TE:=fun σ H Q=>∃ (a:Addr) (j:Nat),σ[0]?=some (some (.ref a))/\H a=some (ExO (c j) a)/\j < 11/\Q (.bl (decide (j=i))) H
theorem gY {X:Cx} {n x:Str} {i:Nat} {p p1 p2 pos:Pos} (Z:Cl K mg cE c) (B:Bl mg) (hK:X.K=K) (hmg:X.mg=mg) (hN:nms[i]?=some n) (hg:Gl X "isinstance") (hgn:Gl X n) (h0:X.N[0]?=some x) (hx:X.env.scope.names.lookup x=some .local)
  (hd:(x==("__debug__" : Str))=false:=by decide) (hcd:(x==("__classdict__" : Str))=false:=by decide) (hdn:(n==("__debug__" : Str))=false:=by decide)
  (he:starEach [.Name x p1,.Name n p2] X.env=(false,eval (.Name x p1) X.env)::starEach [.Name n p2] X.env:=by rfl) (hpl:(backTo pos (starEach [.Name n p2] X.env)).any (·.1)=false:=by rfl) :
  PE X (.Call (.Name "isinstance" p) [.Name x p1,.Name n p2] [] pos) (aFY c i):=by
 have hi:i < 11:=(Qc.mp hN).1
 have hC':∀ h:Heap,K.In h->∃ dd cd sl,h.get? (c i)=some { cls:=.type "type",dict:=dd,data:=.cls cd,slots:=sl }:=fun h hin=>by
  obtain ⟨N,nm,q,bs,hdct,sn,sub,ab,col,dd,k0,k1,k2,k3,k5,mN,hC,_⟩:=Z.ec i hi h hin
  exact ⟨_,_,_,hC⟩
 have J:PE X (.Call (.Name "isinstance" p) [.Name x p1,.Name n p2] [] pos) _:=aT (tS (X:=X) (K:=K) (C':=c i) hK hC') hg (by rw [hmg]; exact B.isinstance) lK (aA (pv 0 h0 (.inl hx) hd hcd) (aA (lY (v:=.ref (c i)) hgn (by rw [hmg]; exact Z.mc i n hN) rfl hdn) aE)) (by decide) (by decide) he hpl
 intro pins s σ H Q I h
 obtain ⟨a,j,e0,hH,hj,q⟩:=h
 refine J pins s σ H Q I ⟨_,e0,a,c j,_,rfl,hH,Z.ec j hj,?_⟩
 rw [Z.has hi hj]
 exact q
def yV (j:Nat):List Bool:=[decide (j=0),decide (j=1),decide (j=2),decide (j=3),decide (j=4),decide (j=5),decide (j=6),decide (j=7),decide (j=8),decide (j=9),decide (j=10)]
def aAq (c:Nat->Addr):Sp:=fun vs H Q _=>∃ (a:Addr) (j:Nat),vs = [.ref a]/\H a=some (ExO (c j) a)/\j < 11/\∀ p H',aF H H'->H' p=some (.lst ((yV j).map V.bl))->Q (.ref p) H'
theorem uQ:FnScope ["e", "kinds"] ["e"] (aO qG):=⟨rfl,rfl,rfl,by decide +kernel,rfl,by decide +kernel,by decide +kernel⟩
theorem sz3 (x y z:V) : [x,y,z].length<=sizeLine:=by rw [sizeLine_eq]; simp
theorem sz4 (x y z u:V) : [x,y,z,u].length<=sizeLine:=by rw [sizeLine_eq]; simp
theorem aCp {f:Addr} {fd:FuncData} (G:Fn K mg "_law_b_kinds" qG ["e"] f fd) (B:Bl mg) (Z:Cl K mg cE c):FnOk P w K mg base CX0 1 f fd ["e"] (aAq c):=by
 refine G.fn.ok uQ (fun vs H Q E h=>?_) (fun cdv A outer s H vs Q E hr h=>?_)
 ·obtain ⟨a,j,rfl,_⟩:=h
  rfl
 ·obtain ⟨a,j,rfl,hH,hj,k⟩:=h
  refine ⟨_,aG (aX (i:=1) uQ.nd rfl (Or.inl rfl) (dE (aA (gY (i:=0) Z B rfl rfl rfl rfl rfl rfl rfl) (aA (gY (i:=1) Z B rfl rfl rfl rfl rfl rfl rfl) (aA (gY (i:=2) Z B rfl rfl rfl rfl rfl rfl rfl) (aA (gY (i:=3) Z B rfl rfl rfl rfl rfl rfl rfl) aE))))))
   (aG (aX (i:=1) uQ.nd rfl (Or.inl rfl) (bB jU (pv 1) (dE (aA (gY (i:=4) Z B rfl rfl rfl rfl rfl rfl rfl) (aA (gY (i:=5) Z B rfl rfl rfl rfl rfl rfl rfl) (aA (gY (i:=6) Z B rfl rfl rfl rfl rfl rfl rfl) (aA (gY (i:=7) Z B rfl rfl rfl rfl rfl rfl rfl) aE)))))))
   (aL (bA (bB jU (pv 1) (dE (aA (gY (i:=8) Z B rfl rfl rfl rfl rfl rfl rfl) (aA (gY (i:=9) Z B rfl rfl rfl rfl rfl rfl rfl) (aA (gY (i:=10) Z B rfl rfl rfl rfl rfl rfl rfl) aE)))))))),?_⟩
  refine ⟨a,j,rfl,hH,hj,a,j,rfl,hH,hj,a,j,rfl,hH,hj,a,j,rfl,hH,hj,sz4 _ _ _ _,fun p1 hp1=>?_⟩
  have h1:=fun o=>(aF.new (o:=o) hp1) _ _ hH
  refine ⟨_,rfl,a,j,rfl,h1 _,hj,a,j,rfl,h1 _,hj,a,j,rfl,h1 _,hj,a,j,rfl,h1 _,hj,sz4 _ _ _ _,fun p2 hp2=>?_⟩
  refine ⟨_,_,_,_,rfl,rfl,(aF.new hp2) _ _ aC,aC,by rw [sizeLine_eq]; simp,fun p3 hp3=>?_⟩
  have s3:=fun o=>(aF.new hp1).trans ((aF.new hp2).trans (aF.new (o:=o) hp3))
  have h3:=fun o=>s3 o _ _ hH
  refine ⟨_,rfl,a,j,rfl,h3 _,hj,a,j,rfl,h3 _,hj,a,j,rfl,h3 _,hj,sz3 _ _ _,fun p4 hp4=>?_⟩
  refine ⟨_,_,_,_,rfl,rfl,(aF.new hp4) _ _ aC,aC,by rw [sizeLine_eq]; simp,fun p5 hp5=>?_⟩
  refine k p5 _ ((s3 _).trans ((aF.new hp4).trans (aF.new hp5))) ?_
  rw [aC]
  rfl
theorem aFZ:bootBuiltins "ValueError" = some (.type "ValueError"):=by decide +kernel
def aCq:List Str:=["book", "costs", "deal", "hand", "rooms", "row", "text", "way", "weights", "work", "many"]
theorem aCr:∀ j,j < 11->(yV j).count true=1:=by decide +kernel
theorem aFy:∀ j,j < 11->(yV j)[j]?=some true:=by decide +kernel
theorem aFz:∀ j,j < 11->∀ m,m < j->(yV j)[m]?≠some true:=by decide +kernel
def aCs (c:Nat->Addr):Sp:=fun vs H Q _=>(vs = [.non]/\Q (.str "told") H)∨∃ (a:Addr) (j:Nat) (t:Str),vs = [.ref a]/\H a=some (ExO (c j) a)/\j < 11/\aCq[j]?=some t/\∀ H',aF H H'->Q (.str t) H'
theorem yW:FnScope ["e", "kinds", "names"] ["e"] (aO aAf):=⟨rfl,rfl,rfl,by decide +kernel,rfl,by decide +kernel,by decide +kernel⟩
theorem aDy {f fK:Addr} {fd dK:FuncData} (G:Fn K mg "_law_b_word" aAf ["e"] f fd) (GK:Fn K mg "_law_b_kinds" qG ["e"] fK dK) (B:Bl mg) (Z:Cl K mg cE c):FnOk P w K mg base CX0 2 f fd ["e"] (aCs c):=by
 have OK:FnOk P w K mg base CX0 1 fK dK ["e"] (aAq c):=aCp GK B Z
 refine G.fn.ok yW (fun vs H Q E h=>?_) (fun cdv A outer s H vs Q E hr h=>?_)
 ·rcases h with ⟨rfl,_⟩ | ⟨a,j,t,rfl,_⟩ <;> rfl
 ·refine ⟨_,PSso.go (bG ⟨bW (aW aEb (pv 0) iR (bD _)) (aL (bA iS)) bH⟩
   (bG ⟨aX (i:=1) yW.nd rfl (Or.inl rfl) (bI GK OK hr rfl (aA (pv 0) aE))⟩
   (bG ⟨bW (PW.pt (iI (aW lE (uJ (K:=K) rfl PySem.F.plainAttrs_list PySem.F.slot_list_count PySem.F.type_list_count (yB (K:=K) rfl) (pv 1) (aA eX aE)) aH (bD _))
    (gE (dZ (cZ (aT (vQ (K:=K) rfl) rfl B.isinstance lK (aA (pv 0) (aA (gI (v:=.ty "ValueError") rfl B.ve aFZ rfl) aE)))))))) (aL (bA iS)) bH⟩
   (bG (gK (i:=2) yW.nd rfl (Or.inl rfl) (mJ (aQ dL (aQ dL (aQ dL (aQ dL (aQ dL (aQ dL (aQ dL (aQ dL (aQ dL (aQ dL (aQ dL cO aD) aD) aD) aD) aD) aD) aD) aD) aD) aD) aD)))
   (gT ⟨bA (bO cB (pv 2) (uJ (K:=K) rfl PySem.F.plainAttrs_list PySem.F.slot_list_index PySem.F.type_list_index (yC (K:=K) rfl) (pv 1) (aA eX aE)) (fun _ _=>rfl))⟩))))),?_⟩
  rcases h with ⟨rfl,q⟩ | ⟨a,j,t,rfl,hH,hj,ht,k⟩
  ·refine ⟨_,rfl,rfl,_,rfl,?_⟩
   exact eD q
  ·refine ⟨_,rfl,rfl,_,rfl,?_⟩
   refine eQ ?_
   refine ⟨_,rfl,a,j,rfl,hH,hj,fun p H1 s1 hp=>?_⟩
   have h1:=s1 _ _ hH
   have ec:((yV j).count true:Int)=1:=by rw [aCr j hj]; rfl
   refine ⟨_,rfl,.inl ⟨rfl,_,SqL.of hp⟩,p,yV j,true,rfl,rfl,SqL.of hp,rfl,_,rfl,?_⟩
   rw [ec]
   refine eQ ?_
   refine ⟨_,rfl,a,c j,_,rfl,h1,Z.ec j hj,_,rfl,?_⟩
   refine eQ ?_
   refine ⟨by rw [sizeLine_eq]; decide,fun p2 hp2=>?_⟩
   refine ⟨_,rfl,_,rfl,.inl ⟨rfl,_,SqL.of ((aF.new hp2) _ _ hp)⟩,p,yV j,true,j,rfl,rfl,SqL.of ((aF.new hp2) _ _ hp),aFy j hj,aFz j hj,p2,aCq.map V.str,j,.str t,rfl,rfl,SqL.of aC,eZ ?_,?_⟩
   ·rw [Qh,ht]; rfl
   ·exact k _ (s1.trans (aF.new hp2))
end
section
variable {P:Program} {w:World} {K:PySem.W.Frag} {mg:Str->Option Value} {base:Heap} {cE:Addr} {c:Nat->Addr}
variable {fW fH fK fB fNB:Addr} {dW dH dK dB dNB:FuncData} {CB CR:Addr} {bmB bmR:List Value}
def aEK (K:PySem.W.Frag) (CB CR:Addr) (H:Hp) (way:Int) (x y:V) (C:Addr):Prop:=(∃ d,Den K H d x/\bN d=false/\C=CB)∨(1<=way/\Bad K CB CR H x y C)
structure Told (K:PySem.W.Frag) (Pt:Addr) (H:Hp) (x y z1 z2 z3:V) (n:Int) (ws:List (List Int)) (rs:List Int) (q hp:Addr) (d:PyData) (ls:List Int) (m:Int):Prop where
 bk:Den K H (bY n ws) x
 ok:bN (bY n ws)=true
 ey:y=.ref q
 hq:SqT K H q (rs.map V.int)
 ro:gL n rs
 hd:Den K H d z1
 e2:z2=.ref hp
 hp:SqT K H hp (ls.map V.int)
 hl:ls.length<=20
 e3:z3=.int m
 tb:H Pt=some (.tab yU)
def aDX (K:PySem.W.Frag) (CB CR Pt:Addr):Sp:=fun vs H Q E=>∃ way x y rp z1 z2 z3,vs = [.int way,x,y,.ref rp]/\0<=way/\way<=3/\SqT K H rp [z1,z2,z3] /\
 ((∃ n ws rs q hp d ls m,Told K Pt H x y z1 z2 z3 n ws rs q hp d ls m/\∀ H',aF H H'->Q .non H')∨∃ C,aEK K CB CR H way x y C/\∀ H',aF H H'->E (.ref C) none H')
theorem aFA:FnScope ["way", "book", "rooms", "rest"] ["way", "book", "rooms", "rest"] (aO aDi):=⟨rfl,rfl,rfl,by decide +kernel,rfl,by decide +kernel,by decide +kernel⟩
theorem aEL {f fC fI fJ fD fN fA fHd fR fW' fWi c Pt:Addr} {fd dC dI dJ dD dN dA dHd dR dW' dWi:FuncData} (G:Fn K mg "_law_b_ask" aDi ["way", "book", "rooms", "rest"] f fd) (B:Bl mg) (R:Pr K mg fW fH fK fB fNB dW dH dK dB dNB) (Z:Rf K mg CB CR bmB bmR)
  (GC:Fn K mg "as_they_come" wL ["book"] fC dC) (hc:dC.code=.ref c) (ZL:Lm K mg base c Pt) (GI:Fn K mg "in_rooms" wK ["book", "rooms"] fI dI) (GJ:Fn K mg "is_in_rooms" iO ["book", "rooms", "thing"] fJ dJ) (GDb:Fn K mg "do_bar" lT ["book", "rooms", "some", "number"] fD dD)
  (GNr:Fn K mg "need_rooms" gU ["book", "rooms"] fN dN) (GAr:Fn K mg "are_rooms" fP ["book", "thing"] fA dA) (GH:Fn K mg "handing" iN ["book", "deal"] fHd dHd) (GR:Fn K mg "reached" kG ["rows", "first"] fR dR) (GW:Fn K mg "way_to" qF ["found", "last"] fW' dW') (GWi:Fn K mg "is_within" kX ["able", "some"] fWi dWi) :
  FnOk P w K mg base (CX1 P w) 8 f fd ["way", "book", "rooms", "rest"] (aDX K CB CR Pt):=by
 have ONr:FnOk P w K mg base CX0 6 fN dN ["book", "rooms"] (mP K):=wZ GNr B R GAr
 have OC:FnOk P w K mg base (CX1 P w) 5 fC dC ["book"] (aA6 (kN K CB) (aCl K Pt)):=(aCo GC B R Z).or (aDu GC hc ZL B R).cx1
 have OI:FnOk P w K mg base (CX1 P w) 7 fI dI ["book", "rooms"] (aA6 (sW K CB CR) (aDW K)):=(aDv GI B R GNr GAr Z).or (aEJ GI B R GNr GAr GH GR GW).cx1
 have OJ:FnOk P w K mg base (CX1 P w) 7 fJ dJ ["book", "rooms", "thing"] (aA6 (aCm K CB CR) (aDV K)):=(aDw GJ B R GNr GAr Z).or (aEH GJ B R GNr ONr).cx1
 have OD:FnOk P w K mg base (CX1 P w) 7 fD dD ["book", "rooms", "some", "number"] (aA6 (aCn K CB CR) (aAn K)):=(aDx GDb B R GNr GAr Z).or (aCi GDb B R GNr ONr GWi).cx1
 refine G.fn.okX aFA (fun vs H Q E h=>?_) (fun cdv A outer s H vs Q E hr h=>?_)
 ·obtain ⟨way,x,y,rp,z1,z2,z3,rfl,_⟩:=h
  rfl
 ·obtain ⟨way,x,y,rp,z1,z2,z3,rfl,w0,w3,hrp,k⟩:=h
  have h5:Room 5 _:=hr.mono (by decide)
  have h7:Room 7 _:=hr
  refine ⟨_,aL (bW (aW jQ (pv 0) aH (bD _)) (aL (bV (iH GC OC h5 rfl lH (aA (pv 1) aE))))
   (aL (bW (aW jQ (pv 0) aH (bD _)) (aL (bV (iH GI OI h7 rfl lH (aA (pv 1) (aA (pv 2) aE)))))
   (aL (bW (aW jQ (pv 0) aH (bD _)) (aL (bV (iH GJ OJ h7 rfl lH (aA (pv 1) (aA (pv 2) (aA (bO eA (pv 3) aH (fun _ _=>rfl)) aE))))))
   (aL (bV (iH GDb OD h7 rfl lH (aA (pv 1) (aA (pv 2) (aA (bO eA (pv 3) aH (fun _ _=>rfl)) (aA (bO eA (pv 3) aH (fun _ _=>rfl)) aE)))))))))))),?_⟩
  have iw:∀ {n:Int},decide (V.int way=V.int n)=true->way=n:=fun {n} c=>by
   have:=of_decide_eq_true c
   injection this
  have nw:∀ {n:Int},¬ decide (V.int way=V.int n)=true->way≠n:=fun {n} c z=>c (decide_eq_true (by rw [z]))
  have bad:∀ {C},aEK K CB CR H way x y C->way≠0->Bad K CB CR H x y C:=fun r h=>by
   rcases r with h1 | ⟨_,h1⟩
   ·exact .inl h1
   ·exact h1
  refine ⟨_,rfl,rfl,_,rfl,?_⟩
  refine cR (fun c=>?_) (fun c=>?_)
  ·have e:=iw c
   refine ⟨_,rfl,?_⟩
   rcases k with ⟨n,ws,rs,q,hp,d,ls,m,T,k⟩ | ⟨C,r,k⟩
   ·exact .inr ⟨x,n,ws,rfl,T.bk,T.ok,T.tb,fun p H' s' _=>k H' s'⟩
   ·rcases r with ⟨d,h1,h2,rfl⟩ | ⟨z,_⟩
    ·exact .inl ⟨x,d,rfl,h1,h2,k⟩
    ·omega
  refine ⟨_,rfl,rfl,_,rfl,?_⟩
  refine cR (fun c1=>?_) (fun c1=>?_)
  ·refine ⟨_,rfl,_,rfl,?_⟩
   rcases k with ⟨n,ws,rs,q,hp,d,ls,m,T,k⟩ | ⟨C,r,k⟩
   ·obtain rfl:=T.ey
    refine .inr ⟨x,q,n,ws,rs,rfl,T.bk,T.ok,T.hq,T.ro,?_⟩
    intros
    exact k _ (by assumption)
   ·exact .inl ⟨x,y,C,rfl,bad r (nw c),k⟩
  refine ⟨_,rfl,rfl,_,rfl,?_⟩
  refine cR (fun c2=>?_) (fun c2=>?_)
  ·refine ⟨_,rfl,_,rfl,_,rfl,rp,_,0,z1,rfl,rfl,hrp,rfl,?_⟩
   rcases k with ⟨n,ws,rs,q,hp,d,ls,m,T,k⟩ | ⟨C,r,k⟩
   ·obtain rfl:=T.ey
    exact .inr ⟨x,q,z1,n,ws,rs,d,rfl,T.bk,T.ok,T.hq,T.ro,T.hd,k⟩
   ·exact .inl ⟨x,y,z1,C,rfl,bad r (nw c),k⟩
  ·refine ⟨_,rfl,_,rfl,_,rfl,rp,_,1,z2,rfl,rfl,hrp,rfl,_,rfl,rp,_,2,z3,rfl,rfl,hrp,rfl,?_⟩
   rcases k with ⟨n,ws,rs,q,hp,d,ls,m,T,k⟩ | ⟨C,r,k⟩
   ·obtain rfl:=T.ey
    obtain rfl:=T.e2
    obtain rfl:=T.e3
    exact .inr ⟨x,q,hp,n,ws,rs,ls,m,rfl,T.bk,T.ok,T.hq,T.ro,T.hp,T.hl,k⟩
   ·exact .inl ⟨x,y,z2,z3,C,rfl,bad r (nw c),k⟩
theorem Cl.rf (Z:Cl K mg cE c):Rf K mg (c 0) (c 4) (.ref cE::vbm) (.ref cE::vbm):=⟨Z.mc 0 _ rfl,Z.mc 4 _ rfl,Z.ec 0 (by decide),Z.ec 4 (by decide)⟩
def aAr (K:PySem.W.Frag) (c:Nat->Addr) (Pt:Addr):Sp:=fun vs H Q _=>∃ way x y rp z1 z2 z3,vs = [.int way,x,y,.ref rp]/\0<=way/\way<=3/\SqT K H rp [z1,z2,z3] /\
 ((∃ n ws rs q hp d ls m,Told K Pt H x y z1 z2 z3 n ws rs q hp d ls m/\∀ H',aF H H'->Q (.str "told") H')∨∃ (j:Nat) (t:Str),j < 11/\aCq[j]?=some t/\aEK K (c 0) (c 4) H way x y (c j)/\∀ H',aF H H'->Q (.str t) H')
theorem uR:FnScope ["way", "book", "rooms", "rest", "caught", "e"] ["way", "book", "rooms", "rest"] (aO uD):=⟨rfl,rfl,rfl,by decide +kernel,rfl,by decide +kernel,by decide +kernel⟩
theorem aCt {f fA fO fI Pt:Addr} {fd dA dO dI:FuncData} (G:Fn K mg "_law_b_asked" uD ["way", "book", "rooms", "rest"] f fd) (GA:Fn K mg "_law_b_ask" aDi ["way", "book", "rooms", "rest"] fA dA) (GO:Fn K mg "_law_b_word" aAf ["e"] fO dO) (GI:Fn K mg "_law_b_kinds" qG ["e"] fI dI) (B:Bl mg) (Z:Cl K mg cE c)
  (OA:FnOk P w K mg base (CX1 P w) 8 fA dA ["way", "book", "rooms", "rest"] (aDX K (c 0) (c 4) Pt)):FnOk P w K mg base CX0 9 f fd ["way", "book", "rooms", "rest"] (aAr K c Pt):=by
 have OO:FnOk P w K mg base CX0 2 fO dO ["e"] (aCs c):=aDy GO GI B Z
 refine G.fn.ok uR (fun vs H Q E h=>?_) (fun cdv A outer s H vs Q E hr h=>?_)
 ·obtain ⟨way,x,y,rp,z1,z2,z3,rfl,_⟩:=h
  rfl
 ·obtain ⟨way,x,y,rp,z1,z2,z3,rfl,w0,w3,hrp,k⟩:=h
  have h2:Room 2 _:=hr.mono (by decide)
  refine ⟨_,aG (aX (i:=4) uR.nd rfl (Or.inl rfl) iR)
   (aG (aEw (i:=4) (j:=5) (aC5 OA hr rfl GA.mgx GA.kp GA.bd .nil (aA (pv 0) (aA (pv 1) (aA (pv 2) (aA (pv 3) aE))))) rfl rfl rfl rfl Z.mE Z.eE uR.nd rfl rfl (by decide) rfl rfl)
   (aL (bA (bI GO OO h2 rfl (aA (pv 4) aE))))),?_⟩
  refine ⟨_,rfl,_,rfl,_,rfl,_,rfl,way,x,y,rp,z1,z2,z3,rfl,w0,w3,hrp,?_⟩
  rcases k with ⟨n,ws,rs,q,hp,d,ls,m,T,k⟩ | ⟨j,t,hj,ht,r,k⟩
  ·exact .inl ⟨n,ws,rs,q,hp,d,ls,m,T,fun H' s1=>⟨_,rfl,.inl ⟨rfl,k H' s1⟩⟩⟩
  ·refine .inr ⟨c j,r,fun H' s1=>⟨c j,_,rfl,Z.ec j hj,Z.up,fun a ha=>?_⟩⟩
   exact ⟨_,rfl,.inr ⟨a,j,t,rfl,aC,hj,ht,fun H2 s2=>k H2 (s1.trans ((aF.new ha).trans s2))⟩⟩
end
def nb0:List PyData:=[.none,.tuple [],.int 2,.tuple [.int 2],.tuple [.int 0,.tuple []],.tuple [.int 7,.tuple []],.tuple [.int (-1),.tuple []],.tuple [.bool true,.tuple []],.tuple [.str "2",.tuple []],.tuple [.int 2,.list []],.list [.int 2,.tuple []],.tuple [.int 2,.tuple [.tuple []]]]
def nb1:List PyData:=[.tuple [.int 2,.tuple [.tuple [.int 2]]],.tuple [.int 2,.tuple [.tuple [.int (-1)]]],.tuple [.int 2,.tuple [.tuple [.int 1,.int 0]]],.tuple [.int 2,.tuple [.tuple [.int 0,.int 0]]],.tuple [.int 2,.tuple [.list [.int 0]]],.tuple [.int 2,.tuple [.int 0]]]
def nb2:List PyData:=[.tuple [.int 2,.tuple [.tuple [.bool true]]],.tuple [.int 2,.tuple [.tuple [.int 0,.none]]],.tuple [.int 2,.tuple [],.tuple []],.tuple [.int 2,.none],.tuple [.int 1,.tuple (List.replicate 13 [.tuple [.int 0]]).flatten],.dict [],.str "hands 2"]
def nb3:List PyData:=[.tuple [.int 2,.tuple [.none,.tuple [.int 0,.int 1]]],.tuple [.int 3,.tuple [.tuple [.int 1,.int 0,.int 2]]],.tuple [.int 3,.tuple [.tuple [.int 0,.int 0,.int 1]]],.tuple [.int 3,.tuple [.tuple [.int 1,.int 2],.tuple [.int 3],.tuple [.int 1]]]]
def nb4:List PyData:=[.tuple [.int 2,.str ""],.tuple [.int 2,.dict []],.tuple [.int 2,.tuple [.str ""]],.tuple [.int 2,.tuple [.dict []]],.tuple [.list [],.tuple []],.tuple [.dict [],.tuple []],.tuple [.str "",.tuple []],.tuple [.int 2,.tuple [.tuple [.int 0,.int 1],.str ""]]]
def nb5:List PyData:=[.tuple [.int 2,.tuple [.tuple [.int 0,.int 1],.none]],.tuple [.tuple [.int 2,.tuple []]],.tuple [.int 2,.tuple [.tuple [.int 0,.int 1],.tuple [.int 1,.int 2]]],.tuple [.int 2,.tuple [.tuple [.int 2],.tuple [.int 0]]]]
def oP:List PyData:=nb0++nb1++nb2++nb3++nb4++nb5
theorem yX:∀ d∈oP,bN d=false:=by
 have h:oP.all (fun d=>!bN d)=true:=by decide +kernel
 intro d hd
 have:=Ja.mp h d hd
 simpa using this
section
variable {P:Program} {w:World} {K:PySem.W.Frag} {mg:Str->Option Value} {base:Heap}
def sX (K:PySem.W.Frag):Sp:=fun vs H Q _=>∃ Z,vs = []/\Fx Z H/\∀ p xs H',aF H H'->H p=none->H' p=some (.lst xs)->aU K (Vw Z H') oP xs->Q (.ref p) H'
theorem sY:FnScope ["found"] [] (aO fT):=⟨rfl,rfl,rfl,by decide +kernel,rfl,by decide +kernel,by decide +kernel⟩
def nbE (k:Nat):Expr:=match (cN fT).getD k (.Pass ⟨0,0,0,0⟩) with
 | .Assign _ e _=>(match e with | .BinOp _ _ e _=>e | e=>e)
 | .Return (some (.BinOp _ _ e _)) _=>e
 | _=>.Constant .none 0 ⟨0,0,0,0⟩
theorem aF0 {X:Cx} {Z:List Addr} (hK:X.K=K):PEo X (nbE 0) (tLs K Z (fun _=>True) nb0) :=
 hV (aB lQ (aB (aM aI) (aB aR (aB (aM (aB aR aI aD)) (aB (aM (aB aR (aB (aM aI) aI aJ) aD)) (aB (aM (aB aR (aB (aM aI) aI aJ) aD)) (aB (aM (aB pV (aB (aM aI) aI aJ) sF)) (aB (aM (aB vU (aB (aM aI) aI aJ) aD)) (aB (aM (aB iZ (aB (aM aI) aI aJ) aD)) (aB (aM (aB aR (aB (nF aI) aI lO) aD)) (aB (nF (aB aR (aB (aM aI) aI aJ) aD)) (aB (aM (aB aR (aB (aM (aB (aM aI) aI aJ)) aI aJ) aD)) aI aJ) lO) aJ) aJ) aJ) aJ) aJ) aJ) aJ) aD) aJ) aD) (by decide)
theorem aF1 {X:Cx} {Z:List Addr} (hK:X.K=K):PEo X (nbE 1) (tLs K Z (fun _=>True) nb1) :=
 hV (aB (aM (aB aR (aB (aM (aB (aM (aB aR aI aD)) aI aJ)) aI aJ) aD)) (aB (aM (aB aR (aB (aM (aB (aM (aB pV aI sF)) aI aJ)) aI aJ) aD)) (aB (aM (aB aR (aB (aM (aB (aM (aB aR (aB aR aI aD) aD)) aI aJ)) aI aJ) aD)) (aB (aM (aB aR (aB (aM (aB (aM (aB aR (aB aR aI aD) aD)) aI aJ)) aI aJ) aD)) (aB (aM (aB aR (aB (aM (aB (nF (aB aR aI aD)) aI lO)) aI aJ) aD)) (aB (aM (aB aR (aB (aM (aB aR aI aD)) aI aJ) aD)) aI aJ) aJ) aJ) aJ) aJ) aJ) (by decide)
theorem aF2 {X:Cx} {Z:List Addr} (hK:X.K=K):PEo X (nbE 2) (tLs K Z (fun _=>True) nb2) :=
 hV (aB (aM (aB aR (aB (aM (aB (aM (aB vU aI aD)) aI aJ)) aI aJ) aD)) (aB (aM (aB aR (aB (aM (aB (aM (aB aR (aB lQ aI aD) aD)) aI aJ)) aI aJ) aD)) (aB (aM (aB aR (aB (aM aI) (aB (aM aI) aI aJ) aJ) aD)) (aB (aM (aB aR (aB lQ aI aD) aD)) (aB (aM (aB aR (aB (aEx hK (aM (aB (aM (aB aR aI aD)) aI aJ))) aI lP) aD)) (aB iM (aB iZ aI aD) iY) aJ) aJ) aJ) aJ) aJ) (by decide)
theorem aF3 {X:Cx} {Z:List Addr} (hK:X.K=K):PEo X (nbE 3) (tLs K Z (fun _=>True) nb3) :=
 hV (aB (aM (aB aR (aB (aM (aB lQ (aB (aM (aB aR (aB aR aI aD) aD)) aI aJ) aD)) aI aJ) aD)) (aB (aM (aB aR (aB (aM (aB (aM (aB aR (aB aR (aB aR aI aD) aD) aD)) aI aJ)) aI aJ) aD)) (aB (aM (aB aR (aB (aM (aB (aM (aB aR (aB aR (aB aR aI aD) aD) aD)) aI aJ)) aI aJ) aD)) (aB (aM (aB aR (aB (aM (aB (aM (aB aR (aB aR aI aD) aD)) (aB (aM (aB aR aI aD)) (aB (aM (aB aR aI aD)) aI aJ) aJ) aJ)) aI aJ) aD)) aI aJ) aJ) aJ) aJ) (by decide)
theorem aF4 {X:Cx} {Z:List Addr} (hK:X.K=K):PEo X (nbE 4) (tLs K Z (fun _=>True) nb4) :=
 hV (aB (aM (aB aR (aB iZ aI aD) aD)) (aB (aM (aB aR (aB iM aI iY) aD)) (aB (aM (aB aR (aB (aM (aB iZ aI aD)) aI aJ) aD)) (aB (aM (aB aR (aB (aM (aB iM aI iY)) aI aJ) aD)) (aB (aM (aB (nF aI) (aB (aM aI) aI aJ) lO)) (aB (aM (aB iM (aB (aM aI) aI aJ) iY)) (aB (aM (aB iZ (aB (aM aI) aI aJ) aD)) (aB (aM (aB aR (aB (aM (aB (aM (aB aR (aB aR aI aD) aD)) (aB iZ aI aD) aJ)) aI aJ) aD)) aI aJ) aJ) aJ) aJ) aJ) aJ) aJ) aJ) (by decide)
theorem aF5 {X:Cx} {Z:List Addr} (hK:X.K=K):PEo X (nbE 5) (tLs K Z (fun _=>True) nb5) :=
 hV (aB (aM (aB aR (aB (aM (aB (aM (aB aR (aB aR aI aD) aD)) (aB lQ aI aD) aJ)) aI aJ) aD)) (aB (aM (aB (aM (aB aR (aB (aM aI) aI aJ) aD)) aI aJ)) (aB (aM (aB aR (aB (aM (aB (aM (aB aR (aB aR aI aD) aD)) (aB (aM (aB aR (aB aR aI aD) aD)) aI aJ) aJ)) aI aJ) aD)) (aB (aM (aB aR (aB (aM (aB (aM (aB aR aI aD)) (aB (aM (aB aR aI aD)) aI aJ) aJ)) aI aJ) aD)) aI aJ) aJ) aJ) aJ) (by decide)
theorem aDz {es:List Expr} {p:Pos} {t:Option Expr} {l:Nat} {env:Env}:swapsWith (.List es p) t l env=pure false:=rfl
theorem uS {a b:Expr} {op:Operator} {p:Pos} {t:Option Expr} {l:Nat} {env:Env}:swapsWith (.BinOp a op b p) t l env=pure false:=rfl
structure FoundX (X:Cx) (K:PySem.W.Frag):Prop where
 hK:X.K=K
 hN:X.N.Nodup
 h0:X.N[0]?=some ("found" : Str)
 hl:X.env.scope.names.lookup ("found" : Str)=some .local
def nbS (k:Nat):Stmt:=(cN fT).getD k (.Pass ⟨0,0,0,0⟩)
theorem aF6 {X:Cx} {Z:List Addr} (x:FoundX X K):PSo X (nbS 0) (lB (tLs K Z (fun _=>True) nb0) (fU 0)):=gK (i:=0) x.hN x.h0 (Or.inl x.hl) (aF0 x.hK) aDz (.inr x.hl)
theorem aF7 {X:Cx} {Z:List Addr} (x:FoundX X K):PSo X (nbS 1) (lB (tOp pB (jK 0) (tLs K Z (fun _=>True) nb1)) (fU 0)):=gK (i:=0) x.hN x.h0 (Or.inl x.hl) (pU jU (sH (pv 0 x.h0 (.inl x.hl))) (aF1 x.hK)) uS (.inr x.hl)
theorem aF8 {X:Cx} {Z:List Addr} (x:FoundX X K):PSo X (nbS 2) (lB (tOp pB (jK 0) (tLs K Z (fun _=>True) nb2)) (fU 0)):=gK (i:=0) x.hN x.h0 (Or.inl x.hl) (pU jU (sH (pv 0 x.h0 (.inl x.hl))) (aF2 x.hK)) uS (.inr x.hl)
theorem aF9 {X:Cx} {Z:List Addr} (x:FoundX X K):PSo X (nbS 3) (lB (tOp pB (jK 0) (tLs K Z (fun _=>True) nb3)) (fU 0)):=gK (i:=0) x.hN x.h0 (Or.inl x.hl) (pU jU (sH (pv 0 x.h0 (.inl x.hl))) (aF3 x.hK)) uS (.inr x.hl)
theorem aGa {X:Cx} {Z:List Addr} (x:FoundX X K):PSo X (nbS 4) (lB (tOp pB (jK 0) (tLs K Z (fun _=>True) nb4)) (fU 0)):=gK (i:=0) x.hN x.h0 (Or.inl x.hl) (pU jU (sH (pv 0 x.h0 (.inl x.hl))) (aF4 x.hK)) uS (.inr x.hl)
theorem aGb {X:Cx} {Z:List Addr} (x:FoundX X K):PSo X (nbS 5) (aCH (tOp pB (jK 0) (tLs K Z (fun _=>True) nb5))):=aC6 (pU jU (sH (pv 0 x.h0 (.inl x.hl))) (aF5 x.hK))
def aCu (K:PySem.W.Frag) (Z:List Addr):TS:=uW (lB (tLs K Z (fun _=>True) nb0) (fU 0)) (uW (lB (tOp pB (jK 0) (tLs K Z (fun _=>True) nb1)) (fU 0)) (uW (lB (tOp pB (jK 0) (tLs K Z (fun _=>True) nb2)) (fU 0)) (uW (lB (tOp pB (jK 0) (tLs K Z (fun _=>True) nb3)) (fU 0)) (uW (lB (tOp pB (jK 0) (tLs K Z (fun _=>True) nb4)) (fU 0)) (aCH (tOp pB (jK 0) (tLs K Z (fun _=>True) nb5)))))))
theorem aDA:cN fT = [nbS 0,nbS 1,nbS 2,nbS 3,nbS 4,nbS 5]:=rfl
theorem aEM {X:Cx} {Z:List Addr} (x:FoundX X K):PSso X (cN fT) (aCu K Z):=by
 rw [aDA]
 exact (bG (aF6 x) (bG (aF7 x) (bG (aF8 x) (bG (aF9 x) (bG (aGa x) (gT (aGb x)))))))
theorem yY {f:Addr} {fd:FuncData} (G:Fn K mg "_law_b_no_books" fT [] f fd):FnOk P w K mg base CX0 1 f fd [] (sX K):=by
 refine G.fn.ok sY (fun vs H Q E h=>?_) (fun cdv A outer s H vs Q E hr h=>?_)
 ·obtain ⟨_,rfl,_⟩:=h
  rfl
 ·obtain ⟨Z,rfl,hZ,k⟩:=h
  have hx:FoundX (lM CX0 P w K mg base ["found"] "_law_b_no_books" (aO fT) f cdv A outer s H E).nox K:=⟨rfl,sY.nd,rfl,rfl⟩
  refine PSso.ex (aEM (Z:=Z) hx) ?_
  refine ⟨trivial,hZ,fun p0 x0 H0 s0 n0 e0 d0=>?_⟩
  refine ⟨_,rfl,trivial,hZ.same s0,fun q1 y1 J1 t1 m1 f1 g1=>?_⟩
  have l1:=aN g1
  have k1:=aN d0
  refine ⟨_,_,_,_,rfl,rfl,t1 _ _ e0,f1,?_,fun p1 n1=>?_⟩
  ·rw [l1,k1,sizeLine_eq]; decide
  have s1:=s0.trans (t1.trans (aF.new (o:=.lst (x0++y1)) n1))
  have e1:upd J1 p1 (.lst (x0++y1)) p1=some (.lst (x0++y1)):=aC
  have d1:=aY ((Vw.same (t1.trans (aF.new (o:=.lst (x0++y1)) n1))).denAll _ _ d0) ((Vw.same (aF.new (o:=.lst (x0++y1)) n1)).denAll _ _ g1)
  refine ⟨_,rfl,trivial,hZ.same s1,fun q2 y2 J2 t2 m2 f2 g2=>?_⟩
  have l2:=aN g2
  have k2:=aN d1
  refine ⟨_,_,_,_,rfl,rfl,t2 _ _ e1,f2,?_,fun p2 n2=>?_⟩
  ·rw [l2,k2,sizeLine_eq]; decide
  have s2:=s1.trans (t2.trans (aF.new (o:=.lst ((x0++y1)++y2)) n2))
  have e2:upd J2 p2 (.lst ((x0++y1)++y2)) p2=some (.lst ((x0++y1)++y2)):=aC
  have d2:=aY ((Vw.same (t2.trans (aF.new (o:=.lst ((x0++y1)++y2)) n2))).denAll _ _ d1) ((Vw.same (aF.new (o:=.lst ((x0++y1)++y2)) n2)).denAll _ _ g2)
  refine ⟨_,rfl,trivial,hZ.same s2,fun q3 y3 J3 t3 m3 f3 g3=>?_⟩
  have l3:=aN g3
  have k3:=aN d2
  refine ⟨_,_,_,_,rfl,rfl,t3 _ _ e2,f3,?_,fun p3 n3=>?_⟩
  ·rw [l3,k3,sizeLine_eq]; decide
  have s3:=s2.trans (t3.trans (aF.new (o:=.lst (((x0++y1)++y2)++y3)) n3))
  have e3:upd J3 p3 (.lst (((x0++y1)++y2)++y3)) p3=some (.lst (((x0++y1)++y2)++y3)):=aC
  have d3:=aY ((Vw.same (t3.trans (aF.new (o:=.lst (((x0++y1)++y2)++y3)) n3))).denAll _ _ d2) ((Vw.same (aF.new (o:=.lst (((x0++y1)++y2)++y3)) n3)).denAll _ _ g3)
  refine ⟨_,rfl,trivial,hZ.same s3,fun q4 y4 J4 t4 m4 f4 g4=>?_⟩
  have l4:=aN g4
  have k4:=aN d3
  refine ⟨_,_,_,_,rfl,rfl,t4 _ _ e3,f4,?_,fun p4 n4=>?_⟩
  ·rw [l4,k4,sizeLine_eq]; decide
  have s4:=s3.trans (t4.trans (aF.new (o:=.lst ((((x0++y1)++y2)++y3)++y4)) n4))
  have e4:upd J4 p4 (.lst ((((x0++y1)++y2)++y3)++y4)) p4=some (.lst ((((x0++y1)++y2)++y3)++y4)):=aC
  have d4:=aY ((Vw.same (t4.trans (aF.new (o:=.lst ((((x0++y1)++y2)++y3)++y4)) n4))).denAll _ _ d3) ((Vw.same (aF.new (o:=.lst ((((x0++y1)++y2)++y3)++y4)) n4)).denAll _ _ g4)
  refine ⟨_,rfl,trivial,hZ.same s4,fun q5 y5 J5 t5 m5 f5 g5=>?_⟩
  have l5:=aN g5
  have k5:=aN d4
  refine ⟨_,_,_,_,rfl,rfl,t5 _ _ e4,f5,?_,fun p5 n5=>?_⟩
  ·rw [l5,k5,sizeLine_eq]; decide
  have s5:=s4.trans (t5.trans (aF.new (o:=.lst (((((x0++y1)++y2)++y3)++y4)++y5)) n5))
  have e5:upd J5 p5 (.lst (((((x0++y1)++y2)++y3)++y4)++y5)) p5=some (.lst (((((x0++y1)++y2)++y3)++y4)++y5)):=aC
  have d5:=aY ((Vw.same (t5.trans (aF.new (o:=.lst (((((x0++y1)++y2)++y3)++y4)++y5)) n5))).denAll _ _ d4) ((Vw.same (aF.new (o:=.lst (((((x0++y1)++y2)++y3)++y4)++y5)) n5)).denAll _ _ g5)
  exact k p5 _ _ s5 (s4.free (t5.free n5)) e5 d5
end
def aAs (n far:Int):List PyData:=[.tuple [.int n],.tuple [.int (n+far)],.tuple [.int (-1)],.tuple [.int (-1),.int 0],.tuple [],.tuple [.int 0,.int 0],.tuple [.int 1,.int 0],.list [.int 0],.none,.tuple [.bool true],.int 0,.str "0",.tuple [.str "0"],.dict []]
theorem aDB {n far:Int} (hf:0<=far):∀ d∈aAs n far,bS n d=false:=by
 intro d hd
 unfold aAs at hd
 simp only [Qk,Qn,or_false] at hd
 have e1:¬ (n < n):=by omega
 have e2:¬ (n+far < n):=by omega
 rcases hd with rfl | rfl | rfl | rfl | rfl | rfl | rfl | rfl | rfl | rfl | rfl | rfl | rfl | rfl <;> simp [bS,cX,e1,e2]
theorem aCv {n:Int} {d:PyData} {a b:List PyData} (h:bS n d=false):bN (.tuple [.int n,.tuple (a++[d]++b)])=false:=by
 show (decide (1<=n) && decide (n<=6) && decide ((a++[d]++b).length<=12) && (a++[d]++b).all (bS n))=false
 simp [h]
section
variable {K:PySem.W.Frag} {S:List Addr} {H H' H0:Hp}
mutual
theorem Fx.den (f:Fx S H):∀ (d:PyData) (v:V),dG d=true->Den K H d v->Den K (Vw S H) d v
 | .none,v,_,h=>by unfold Den at h ⊢; exact h
 | .bool b,v,_,h=>by unfold Den at h ⊢; exact h
 | .int i,v,_,h=>by unfold Den at h ⊢; exact h
 | .str x,v,_,h=>by unfold Den at h ⊢; exact h
 | .list ds,v,n,h=>by unfold dG at n; cases n
 | .tuple ds,v,n,h=>by unfold dG at n; unfold Den at h ⊢; obtain ⟨a,xs,h1,h2,h3⟩:=h; exact ⟨a,xs,h1,f.seqT h2,Fx.denAll f ds xs n h3⟩
 | .dict kvs,v,n,h=>by unfold dG at n; cases n
theorem Fx.denAll (f:Fx S H):∀ (ds:List PyData) (xs:List V),eO ds=true->aU K H ds xs->aU K (Vw S H) ds xs
 | [],xs,_,h=>by unfold aU at h ⊢; exact h
 | d::ds,xs,n,h=>by
  unfold eO at n; rw [Qv] at n
  unfold aU at h ⊢; obtain ⟨x,r,h1,h2,h3⟩:=h; exact ⟨x,r,h1,Fx.den f d x n.1 h2,Fx.denAll f ds r n.2 h3⟩
end
end
section
variable {P:Program} {w:World} {K:PySem.W.Frag} {mg:Str->Option Value} {base:Heap}
theorem But.vw {t:Addr} {S:List Addr} {H H':Hp} (e:But t H H') (h:t∈S):aF (Vw S H) (Vw S H'):=Vw.keep fun b o n q=>e b o (fun z=>n (z ▸ h)) q
theorem Vw.less {p:Addr} {S:List Addr} {H:Hp}:aF (Vw (p::S) H) (Vw S H):=fun b o h=>by
 unfold Vw at h ⊢
 by_cases hb:b∈S
 ·rw [if_pos (Qm _ hb)] at h; cases h
 ·rw [if_neg hb]
  by_cases hp:b∈p::S
  ·rw [if_pos hp] at h; cases h
  ·rw [if_neg hp] at h; exact h
theorem fx2 {K:PySem.W.Frag} {H:Hp} {t a f:Addr} {ns:List Int} {xs:List V} (T:dM K H t a ns) (h:H f=some (.lst xs)):Fx [f,t] H:=fun b hb=>by
 rcases Qk.mp hb with rfl | hb
 ·exact ⟨_,h⟩
 ·rw [Qr.mp hb]
  obtain ⟨p,q,_,e⟩:=T.1
  exact ⟨_,e⟩
def xH (K:PySem.W.Frag):Sp:=fun vs H Q _=>∃ (t a:Addr) (ns:List Int) (x:V) (n:Int) (ws:List (List Int)),vs = [.ref t,x]/\dM K H t a ns/\Den K H (bY n ws) x/\bN (bY n ws)=true /\
 ∀ p xs ds H',But t H H'->dM K H' t a ns->H' p=some (.lst xs)->p≠t->aU K (Vw [t] H') ds xs->(∀ d∈ds,bN d=false)->ds.length=14->Q (.ref p) H'
theorem gZ:FnScope ["tape", "book", "hands", "works", "far", "at", "found", "bad"] ["tape", "book"] (aO mL):=⟨rfl,rfl,rfl,by decide +kernel,rfl,by decide +kernel,by decide +kernel⟩
def faE:Expr:=match (cN mL).getD 4 (.Pass ⟨0,0,0,0⟩) with
 | .For _ e _ _ _=>e
 | _=>.Constant .none 0 ⟨0,0,0,0⟩
theorem aDC {X:Cx} {Z:List Addr} {n far:Int} (h2:X.N[2]?=some ("hands" : Str)) (l2:X.env.scope.names.lookup ("hands" : Str)=some .local) (h4:X.N[4]?=some ("far" : Str)) (l4:X.env.scope.names.lookup ("far" : Str)=some .local) :
  PEo X faE (tLs K Z (fun σ=>σ[2]?=some (some (.int n))/\σ[4]?=some (some (.int far))) (aAs n far)) :=
 hV (aB (aM (aB (tU (v:=.int n) (pv 2 h2 (.inl l2)) (fun σ H Q s q=>⟨_,s.1,q⟩) (fun H=>bQ.mpr rfl)) aI zQ) (by show 1<=1000; decide))
  (aB (aM (aB (tU (v:=.int (n+far)) (bB cQ (pv 2 h2 (.inl l2)) (pv 4 h4 (.inl l4))) (fun σ H Q s q=>⟨_,s.1,_,s.2,_,_,rfl,rfl,q⟩) (fun H=>bQ.mpr rfl)) aI lP) (by show 1<=1000; decide))
  (aB (aM (aB pV aI sF)) (aB (aM (aB pV (aB aR aI aD) sF)) (aB (aM aI) (aB (aM (aB aR (aB aR aI aD) aD))
  (aB (aM (aB aR (aB aR aI aD) aD)) (aB (nF (aB aR aI aD)) (aB lQ (aB (aM (aB vU aI aD)) (aB aR (aB iZ
  (aB (aM (aB iZ aI aD)) (aB iM aI iY) aJ) aD) aD) aJ) aD) lO) aJ) aJ) aJ) aJ) aJ) aJ) aJ) (by show 14<=1000; decide)
def tFa (K:PySem.W.Frag):TE:=fun σ H Q=>∃ (Z:List Addr) (n far:Int),tLs K Z (fun σ=>σ[2]?=some (some (.int n))/\σ[4]?=some (some (.int far))) (aAs n far) σ H Q
theorem aEN {X:Cx} (h2:X.N[2]?=some ("hands" : Str)) (l2:X.env.scope.names.lookup ("hands" : Str)=some .local) (h4:X.N[4]?=some ("far" : Str)) (l4:X.env.scope.names.lookup ("far" : Str)=some .local):PEo X faE (tFa K):=by
 constructor
 intro pins s σ H Q I h
 obtain ⟨Z,n,far,h⟩:=h
 obtain ⟨go⟩:=aDC (K:=K) (Z:=Z) (n:=n) (far:=far) h2 l2 h4 l4
 exact go pins s σ H Q I h
theorem aA9 {f fD:Addr} {fd fdD:FuncData} (G:Fn K mg "_law_b_faulty" mL ["tape", "book"] f fd) (B:Bl mg) (GD:Fn K mg "_law_b_digit" jB ["tape", "many"] fD fdD) (OD:FnOk P w K mg base CX0 2 fD fdD ["tape", "many"] (iA K)):FnOk P w K mg base CX0 3 f fd ["tape", "book"] (xH K):=by
 refine G.fn.ok gZ (fun vs H Q E h=>?_) (fun cdv A outer s H vs Q E hr h=>?_)
 ·obtain ⟨t,a,ns,x,n,ws,rfl,_⟩:=h
  rfl
 ·obtain ⟨t,a,ns,x,n,ws,rfl,hT,hx,hb,k⟩:=h
  obtain ⟨c,b,ys,rfl,hc,hb2,hys⟩:=eJ hx
  obtain ⟨hn1,hn6,h12,hwk⟩:=cK hb
  have hlw:=aN hys
  rw [Qb] at hlw
  refine PSso.ex (bG ⟨lL (pv 1) (jN rfl (bX (aS (i:=2) gZ.nd rfl (Or.inl rfl)) (bX (aS (i:=3) gZ.nd rfl (Or.inl rfl)) hG)))⟩
   (bG ⟨aX (i:=4) gZ.nd rfl (Or.inl rfl) (bI GD OD hr rfl (aA (pv 0) (aA (bB tH aH aH) aE)))⟩
   (bG ⟨aX (i:=5) gZ.nd rfl (Or.inl rfl) (bI GD OD hr rfl (aA (pv 0) (aA (bB cQ (aT (aAB rfl) rfl B.min aFk (aA aH (aA (aT bC rfl B.len gD (aA (pv 3) aE)) aE))) aH) aE)))⟩
   (bG ⟨aX (i:=6) gZ.nd rfl (Or.inl rfl) (dE aE)⟩
   (bG (nY PassesOwn.never rfl (aEN (K:=K) rfl rfl rfl rfl) (aS (i:=7) gZ.nd rfl (Or.inl rfl))
    (gT ⟨bV (nU PySem.F.plainAttrs_list PySem.F.slot_list_append PySem.F.type_list_append gM (pv 6) (aA (eY (aA (pv 2) (aA (bB (kB (K:=K) rfl) (bB (kB (K:=K) rfl) (jR (kC (K:=K) rfl) (pv 3) oH (kS (pv 5))) (eY (aA (pv 7) aE))) (jR (kC (K:=K) rfl) (pv 3) (kS (pv 5)) (kS aH))) aE))) aE))⟩) zU)
   (gT ⟨bA (pv 6)⟩)))))) ?_
  refine ⟨_,rfl,c,_,rfl,hc,rfl,_,_,rfl,_,_,rfl,rfl,?_⟩
  refine ⟨_,rfl,_,_,rfl,rfl,⟨by decide,by decide,by decide⟩,t,a,ns,100000000000000000000,rfl,hT,by decide,by decide,fun far H1 hf0 hf1 b1 T1=>?_⟩
  have hb1:=hT.seqT b1 hb2
  have hm:0 < (if (ys.length:Int) < 11 then (ys.length:Int) else 11)+1/\(if (ys.length:Int) < 11 then (ys.length:Int) else 11)+1 < 100:=by split <;> omega
  refine ⟨_,rfl,_,rfl,b,ys,rfl,.inr hb1,_,_,rfl,_,_,rfl,rfl,t,a,ns,_,rfl,T1,hm.1,by have:=hm.2; omega,fun at0 H2 ha0 ha1 b2 T2=>?_⟩
  obtain ⟨m,rfl⟩:∃ m:Nat,at0=m:=⟨at0.toNat,by omega⟩
  have hb2':=T1.seqT b2 hb1
  refine ⟨eM (Jm _),fun fl hfl=>?_⟩
  have ntf:t≠fl:=fun z=>T2.ne hfl z.symm
  have F:Far K a fl ns:=yN T2.2 hfl
  have s3:=aF.new (o:=.lst []) hfl
  have T3:=T2.same s3
  have hb3:=s3.seqT hb2'
  have hfl3:upd H2 fl (.lst []) fl=some (.lst []):=aC
  have b03:But t H (upd H2 fl (.lst [])):=(b1.trans b2).trans (But.of s3)
  have hfl0:H fl=none:=(b1.trans b2).free hfl (Ne.symm ntf)
  have hys3:=b03.denAll hT.1.choose_spec.choose_spec.2 _ _ (bP _ bZ ws) hys
  generalize hH3:upd H2 fl (.lst [])=H3 at T3 b03 hfl3 hb3 hys3 ⊢
  have f3:Fx [fl,t] H3:=fx2 T3 hfl3
  refine ⟨[fl,t],n,far,⟨rfl,rfl⟩,f3,fun pb bs H4 s4 npb hpb hbs=>?_⟩
  have npf:pb≠fl:=fun z=>by rw [z,hfl3] at npb; cases npb
  have hfl4:=s4 _ _ hfl3
  refine ⟨pb,rfl,⟨_,SqL.of hpb⟩,jO (K:=K) (a:=pb) (xs:=bs) (fun i σ H5=>∃ xs ds v,σ = [some (.ref t),some (.ref c),some (.int n),some (.ref b),some (.int far),some (.int m),some (.ref fl),v]/\H5 fl=some (.lst xs)/\aU K (Vw [fl,t] H5) ds xs/\(∀ d∈ds,bN d=false)/\ds.length=i/\But fl H4 H5)
   ⟨[],[],none,rfl,hfl4,aV.mpr rfl,fun _ h=>(Qn h).elim,rfl,But.refl _ _⟩ (fun i σ H5 _ ⟨_,_,_,_,_,_,_,_,b5⟩=>b5.seqL npf (SqL.of hpb)) ?_ ?_⟩
  ·rintro i y σ H5 hy ⟨xs,ds,v,rfl,hx5,hd,hno,hl,b5⟩
   have hi:i < bs.length:=(Qc.mp hy).1
   have hb14:bs.length=14:=aN hbs
   have hxl:=aN hd
   obtain ⟨d,hdi,hdy⟩:=cC ((But.vw (S:=[fl,t]) b5 (Qo ..)).denAll _ _ hbs) hy
   have hbw:=aDB hf0 d (Qj hdi)
   have hb5:=b5.seqT hfl4 (s4.seqT hb3)
   have hys5:=b5.denAll hfl4 _ _ (bP _ bZ ws) (s4.denAll _ _ hys3)
   refine ⟨_,rfl,.inl ⟨rfl,_,SqL.of hx5⟩,_,rfl,_,rfl,_,rfl,_,rfl,b,ys,rfl,hb5,fun p1 H6 s6 q6=>?_⟩
   refine ⟨_,rfl,sz1 _,fun p2 h2=>?_⟩
   have l1:=vN (xs:=ys) (lo:=none) (hi:=some (m:Int))
   have l2:=vN (xs:=ys) (lo:=some (m:Int)) (hi:=some 11)
   refine ⟨p1,p2,_,_,rfl,rfl,(aF.new h2).seqT q6,SqT.of aC,by rw [sizeLine_eq]; show _+1<=_; omega,fun p3 H7 s7 q7=>?_⟩
   have s57:=s6.trans ((aF.new h2).trans s7)
   refine ⟨_,rfl,_,rfl,_,rfl,_,rfl,b,ys,rfl,s57.seqT hb5,fun p4 H8 s8 q8=>?_⟩
   refine ⟨p3,p4,_,_,rfl,rfl,s8.seqT q7,q8,by rw [sizeLine_eq,Qs]; show _+1+_<=_; omega,fun p5 H9 s9 q9=>?_⟩
   refine ⟨sz2 _ _,fun p6 h6=>?_⟩
   have s59:=s57.trans (s8.trans (s9.trans (aF.new (o:=.tup [.int n,.ref p5]) h6)))
   have q10:SqT K (upd H9 p6 (.tup [.int n,.ref p5])) p6 [.int n,.ref p5]:=SqT.of aC
   have q95:=(aF.new (o:=.tup [.int n,.ref p5]) h6).seqT q9
   generalize upd H9 p6 (.tup [.int n,.ref p5])=H10 at s59 q10 q95 ⊢
   have hx10:=s59 _ _ hx5
   have f10:Fx [fl,t] H10:=fx2 ((((T3.same s4).wr b5 ntf F)).same s59) hx10
   refine ⟨fl,xs,.ref p6,rfl,rfl,hx10,by rw [sizeLine_eq]; omega,?_⟩
   have hysV:=Ab.Fx.denAll f10 _ _ (bP _ bZ ws) (s59.denAll _ _ hys5)
   obtain ⟨dA,hA⟩:=tV (K:=K) (H:=Vw [fl,t] H10) (xs:=jS ys none (some (m:Int))) fun x hx=>vV hysV x (vM hx)
   obtain ⟨dB,hB⟩:=tV (K:=K) (H:=Vw [fl,t] H10) (xs:=jS ys (some (m:Int)) (some 11)) fun x hx=>vV hysV x (vM hx)
   have hdV:=(Vw.same (S:=[fl,t]) s59).den _ _ hdy
   have key:Den K (Vw [fl,t] H10) (.tuple [.int n,.tuple (dA++[d]++dB)]) (.ref p6):=bE.mpr ⟨p6,_,rfl,f10.seqT q10,aP.mpr ⟨_,_,rfl,bQ.mpr rfl,aP.mpr ⟨_,_,rfl,bE.mpr ⟨p5,_,rfl,f10.seqT q95,aY (aY hA (aP.mpr ⟨_,_,rfl,hdV,aV.mpr rfl⟩)) hB⟩,aV.mpr rfl⟩⟩⟩
   have b11:But fl H10 (upd H10 fl (.lst (xs++[.ref p6]))):=But.at
   refine ⟨xs++[.ref p6],ds++[.tuple [.int n,.tuple (dA++[d]++dB)]],_,rfl,aC,(But.vw (S:=[fl,t]) b11 (Qo ..)).denAll _ _ (aY ((Vw.same s59).denAll _ _ hd) (aP.mpr ⟨_,_,rfl,key,aV.mpr rfl⟩)),fun d2 h2=>?_,by rw [Qs,hl]; rfl,b5.trans ((But.of s59).trans b11)⟩
   rcases Jf.mp h2 with h | h
   ·exact hno d2 h
   ·rw [Qr.mp h]; exact aCv hbw
  ·rintro σ H5 ⟨xs,ds,v,rfl,hx5,hd,hno,hl,b5⟩
   refine ⟨_,rfl,k fl xs ds H5 (fun b o nb hb=>b5 b o (fun z=>by rw [z,hfl0] at hb; cases hb) (s4 _ _ (b03 b o nb hb))) ((T3.same s4).wr b5 ntf F) hx5 (Ne.symm ntf) (Vw.less.denAll _ _ hd) hno ?_⟩
   rw [hl]
   exact aN hbs
theorem nQ {n:Int} {ds:List PyData} (h:ds.length≠n.toNat):jJ n (.tuple ds)=false:=by
 show (decide (ds.length=n.toNat) && ds.all dY)=false
 rw [decide_eq_false h,Xw]
theorem sZ {n:Int} {ds:List PyData} {d:PyData} (hd:d∈ds) (h:dY d=false):jJ n (.tuple ds)=false:=by
 show (decide (ds.length=n.toNat) && ds.all dY)=false
 have:ds.all dY=false:=by
  rw [<- Bool.not_eq_true,Ja]
  intro z
  rw [z d hd] at h; cases h
 rw [this,Zn]
def nr0 (rs:List Int):List PyData:=[.tuple ((rs.drop 1).map .int),.tuple (rs.map .int++[.int 0]),.list (rs.map .int),.none,.str "1",.int 0,.dict [],.tuple [.tuple (rs.map .int)],.tuple [],.str ""]
theorem aEO {n:Int} {rs:List Int} (hn:1<=n) (h:rs.length=n.toNat):∀ d∈nr0 rs,jJ n d=false:=by
 intro d hd
 unfold nr0 at hd
 simp only [Qk,Qn,or_false] at hd
 rcases hd with rfl | rfl | rfl | rfl | rfl | rfl | rfl | rfl | rfl | rfl
 ·exact nQ (by rw [Qb,Jt]; omega)
 ·exact nQ (by rw [Qs,Qb]; show _+1≠_; omega)
 ·rfl
 ·rfl
 ·rfl
 ·rfl
 ·rfl
 ·exact sZ (Jj _) rfl
 ·exact nQ (by show 0≠_; omega)
 ·rfl
theorem aEP {rs:List Int} (h:rs.length<=6):∀ d∈nr0 rs,∀ ds,d=.tuple ds->ds.length<=1000:=by
 intro d hd ds e
 unfold nr0 at hd
 simp only [Qk,Qn,or_false] at hd
 rcases hd with rfl | rfl | rfl | rfl | rfl | rfl | rfl | rfl | rfl | rfl
 ·injection e with e; subst e; rw [Qb,Jt]; omega
 ·injection e with e; subst e; rw [Qs,Qb]; show _+1<=_; omega
 ·cases e
 ·cases e
 ·cases e
 ·cases e
 ·cases e
 ·injection e with e; subst e; show 1<=1000; decide
 ·injection e with e; subst e; show 0<=1000; decide
 ·cases e
def aDD (far:Int):List PyData:=[.int (-1),.int (-1 - far),.int 13,.int (13+far),.bool true,.bool false,.none,.str "1",.tuple [.int 1],.list [.int 0],.dict []]
theorem aDE {far:Int} (hf:0<=far):∀ d∈aDD far,dY d=false:=by
 intro d hd
 unfold aDD at hd
 simp only [Qk,Qn,or_false] at hd
 rcases hd with rfl | rfl | rfl | rfl | rfl | rfl | rfl | rfl | rfl | rfl | rfl
 ·rfl
 ·show (decide (0<=-1 - far) && decide (-1 - far<=12))=false
  rw [decide_eq_false (by omega),Xw]
 ·rfl
 ·show (decide (0<=13+far) && decide (13+far<=12))=false
  rw [decide_eq_false (show ¬ 13+far<=12 by omega),Zn]
 all_goals rfl
theorem Vw.grow {S:List Addr} {H:Hp} {p:Addr} {o:HO} (h:H p=none):aF (Vw S H) (Vw (p::S) (upd H p o)):=fun b u e=>by
 have e':=Vw.sub b u e
 have n:b≠p:=fun z=>by rw [z,h] at e'; cases e'
 have nS:b∉S:=fun z=>by unfold Vw at e; rw [if_pos z] at e; cases e
 rw [Vw.out (by simp [n,nS]),aK n]
 exact e'
theorem fx1 {K:PySem.W.Frag} {H:Hp} {t a:Addr} {ns:List Int} (T:dM K H t a ns):Fx [t] H:=fun b hb=>by
 rw [Qr.mp hb]
 obtain ⟨p,q,_,e⟩:=T.1
 exact ⟨_,e⟩
def aCw (K:PySem.W.Frag):Sp:=fun vs H Q _=>∃ (t a:Addr) (ns:List Int) (q:Addr) (n:Int) (rs:List Int),vs = [.ref t,.ref q]/\dM K H t a ns/\SqT K H q (rs.map V.int)/\gL n rs/\1<=n/\n<=6 /\
 ∀ p xs ds H',But t H H'->dM K H' t a ns->H' p=some (.lst xs)->p≠t->aU K (Vw [t] H') ds xs->(∀ d∈ds,jJ n d=false)->(∀ d∈ds,∀ es,d=.tuple es->es.length<=1000)->Q (.ref p) H'
theorem qW:FnScope ["tape", "rooms", "far", "at", "found", "odd"] ["tape", "rooms"] (aO wN):=⟨rfl,rfl,rfl,by decide +kernel,rfl,by decide +kernel,by decide +kernel⟩
def noE:Expr:=match (cN wN).getD 3 (.Pass ⟨0,0,0,0⟩) with
 | .For _ e _ _ _=>e
 | _=>.Constant .none 0 ⟨0,0,0,0⟩
theorem aDF {X:Cx} {Z:List Addr} {far:Int} (h2:X.N[2]?=some ("far" : Str)) (l2:X.env.scope.names.lookup ("far" : Str)=some .local) :
  PEo X noE (tLs K Z (fun σ=>σ[2]?=some (some (.int far))) (aDD far)) :=
 hV (aB pV (aB (tU (v:=.int (-1 - far)) (bB xL (rP mV aH) (pv 2 h2 (.inl l2))) (fun σ H Q s q=>⟨_,rfl,_,s,_,_,rfl,rfl,q⟩) (fun H=>bQ.mpr rfl))
  (aB aR (aB (tU (v:=.int (13+far)) (bB cQ aH (pv 2 h2 (.inl l2))) (fun σ H Q s q=>⟨_,s,_,_,rfl,rfl,q⟩) (fun H=>bQ.mpr rfl))
  (aB vU (aB vU (aB lQ (aB iZ (aB (aM (aB aR aI aD)) (aB (nF (aB aR aI aD)) (aB iM aI iY) lO) aJ) aD) aD) aD) aD) lP) aD) lP) sF) (by show 11<=1000; decide)
def tNo (K:PySem.W.Frag):TE:=fun σ H Q=>∃ (Z:List Addr) (far:Int),tLs K Z (fun σ=>σ[2]?=some (some (.int far))) (aDD far) σ H Q
theorem aEQ {X:Cx} (h2:X.N[2]?=some ("far" : Str)) (l2:X.env.scope.names.lookup ("far" : Str)=some .local):PEo X noE (tNo K):=by
 constructor
 intro pins s σ H Q I h
 obtain ⟨Z,far,h⟩:=h
 obtain ⟨go⟩:=aDF (K:=K) (Z:=Z) (far:=far) h2 l2
 exact go pins s σ H Q I h
set_option maxHeartbeats 2000000 in
theorem aDG {f fD:Addr} {fd fdD:FuncData} (G:Fn K mg "_law_b_none" wN ["tape", "rooms"] f fd) (B:Bl mg) (GD:Fn K mg "_law_b_digit" jB ["tape", "many"] fD fdD) (OD:FnOk P w K mg base CX0 2 fD fdD ["tape", "many"] (iA K)):FnOk P w K mg base CX0 3 f fd ["tape", "rooms"] (aCw K):=by
 refine G.fn.ok qW (fun vs H Q E h=>?_) (fun cdv A outer s H vs Q E hr h=>?_)
 ·obtain ⟨t,a,ns,q,n,rs,rfl,_⟩:=h
  rfl
 ·obtain ⟨t,a,ns,c,n,rs,rfl,hT,hc,⟨hrl,hr12⟩,hn1,hn6,k⟩:=h
  refine PSso.ex (bG ⟨aX (i:=2) qW.nd rfl (Or.inl rfl) (bI GD OD hr rfl (aA (pv 0) (aA (bB tH aH aH) aE)))⟩
   (bG ⟨aX (i:=3) qW.nd rfl (Or.inl rfl) (bI GD OD hr rfl (aA (pv 0) (aA (aT bC rfl B.len gD (aA (pv 1) aE)) aE)))⟩
   (bG (gK (i:=4) qW.nd rfl (Or.inl rfl) (mJ (aQ ⟨jR (kC (K:=K) rfl) (pv 1) (kS aH) oH⟩ (aQ ⟨bB (kB (K:=K) rfl) (pv 1) (eY (aA aH aE))⟩ (aQ ⟨cA (rE (K:=K) rfl) rfl B.list aEE (aA (pv 1) aE)⟩
    (aQ tT (aQ dL (aQ fZ (aQ aAL (aQ (eN (aQ (sH (pv 1)) cO zQ)) (aQ (eN cO) (aQ dL cO aD) aJ) aJ) iY) aD) aD) aD) tQ) lP) aBJ)))
   (bG (nY PassesOwn.never rfl (aEQ (K:=K) rfl rfl) (aS (i:=5) qW.nd rfl (Or.inl rfl))
    (gT ⟨bV (nU PySem.F.plainAttrs_list PySem.F.slot_list_append PySem.F.type_list_append gM (pv 4) (aA (bB (kB (K:=K) rfl) (bB (kB (K:=K) rfl) (jR (kC (K:=K) rfl) (pv 1) oH (kS (pv 3))) (eY (aA (pv 5) aE))) (jR (kC (K:=K) rfl) (pv 1) (kS (bB cQ (pv 3) aH)) oH)) aE))⟩) zU)
   (gT ⟨bA (pv 4)⟩))))) ?_
  have hm:(rs.map V.int).length=rs.length:=Qb ..
  refine ⟨_,rfl,_,_,rfl,rfl,⟨by decide,by decide,by decide⟩,t,a,ns,100000000000000000000,rfl,hT,by decide,by decide,fun far H1 hf0 hf1 b1 T1=>?_⟩
  have hc1:=hT.seqT b1 hc
  refine ⟨_,rfl,_,rfl,c,_,rfl,.inr hc1,t,a,ns,_,rfl,T1,by rw [hm]; omega,by rw [hm]; omega,fun at0 H2 ha0 ha1 b2 T2=>?_⟩
  rw [hm] at ha1
  obtain ⟨m,rfl⟩:∃ m:Nat,at0=m:=⟨at0.toNat,by omega⟩
  have b02:=b1.trans b2
  have hc2:=hT.seqT b02 hc
  have f2:=fx1 T2
  refine ⟨_,rfl,1,rfl,c,_,rfl,hc2,fun p1 H3 s3 h1=>?_⟩
  have h1':SqT K H3 p1 ((rs.drop 1).map V.int):=by
   have:=h1
   rw [show (1:Int)=((1:Nat):Int) from rfl,rZ,<- List.map_drop] at this
   exact this
  have hc3:=s3.seqT hc2
  refine ⟨_,rfl,sz1 _,fun q1 hq1=>⟨c,q1,_,_,rfl,rfl,(aF.new hq1).seqT hc3,SqT.of aC,by rw [sizeLine_eq,hm]; show _+1<=_; omega,fun p2 H4 s4' h2=>?_⟩⟩
  have s4:=(aF.new (o:=.tup [.int 0]) hq1).trans s4'
  have hc4:=s4.seqT hc3
  refine ⟨_,rfl,c,_,rfl,.inr hc4,fun l1 hl1=>?_⟩
  have f4:Fx [t] H4:=f2.same (s3.trans s4)
  have e1:Vw [t] (upd H4 l1 (.lst (rs.map V.int))) l1=some (.lst (rs.map V.int)):=Vw.at f4 hl1
  have s5:aF H4 (upd H4 l1 (.lst (rs.map V.int))):=aF.new hl1
  generalize upd H4 l1 (.lst (rs.map V.int))=H5 at e1 s5 ⊢
  refine fun p3 hp3=>⟨_,rfl,sz1 _,fun p4 hp4=>⟨eM (show 0<=1000 by decide),fun p5 hp5=>⟨eM (show 10<=1000 by decide),fun fl hfl=>?_⟩⟩⟩
  have f5:Fx [t] H5:=f4.same s5
  have e3:Vw [t] (upd H5 p3 (.dK [])) p3=some (.dK []):=Vw.at f5 hp3
  have sA:=aF.new (o:=.dK []) hp3
  generalize upd H5 p3 (.dK [])=H6 at e3 sA hp4 hp5 hfl ⊢
  have sB:=aF.new (o:=.tup [.ref c]) hp4
  have e4:upd H6 p4 (.tup [.ref c]) p4=some (.tup [.ref c]):=aC
  generalize upd H6 p4 (.tup [.ref c])=H7 at sB e4 hp5 hfl ⊢
  have sC:=aF.new (o:=.tup []) hp5
  have e5:upd H7 p5 (.tup []) p5=some (.tup []):=aC
  generalize upd H7 p5 (.tup [])=H8 at sC e5 hfl ⊢
  have s68:=sB.trans sC
  have s58:=sA.trans s68
  have s48:=s5.trans s58
  have s28:=(s3.trans s4).trans s48
  have f8:=f2.same s28
  have hc8:=s28.seqT hc2
  have D8:aU K (Vw [t] H8) (nr0 rs) [.ref p1,.ref p2,.ref l1,.non,.str "1",.int 0,.ref p3,.ref p4,.ref p5,.str ""] :=
   aP.mpr ⟨_,_,rfl,cM.mpr ⟨p1,rfl,f8.seqT ((s4.trans s48).seqT h1')⟩,
   aP.mpr ⟨_,_,rfl,bE.mpr ⟨p2,_,rfl,f8.seqT (s48.seqT h2),aY (cJ.mpr rfl) (aP.mpr ⟨_,_,rfl,bQ.mpr rfl,aV.mpr rfl⟩)⟩,
   aP.mpr ⟨_,_,rfl,gS.mpr ⟨l1,_,rfl,SqL.of (Vw.same s58 _ _ e1),cJ.mpr rfl⟩,
   aP.mpr ⟨_,_,rfl,gR.mpr rfl,aP.mpr ⟨_,_,rfl,kW.mpr rfl,aP.mpr ⟨_,_,rfl,bQ.mpr rfl,aP.mpr ⟨_,_,rfl,pH.mpr ⟨rfl,p3,rfl,Vw.same s68 _ _ e3⟩,
   aP.mpr ⟨_,_,rfl,bE.mpr ⟨p4,_,rfl,f8.seqT (SqT.of (sC _ _ e4)),aP.mpr ⟨_,_,rfl,cM.mpr ⟨c,rfl,f8.seqT hc8⟩,aV.mpr rfl⟩⟩,
   aP.mpr ⟨_,_,rfl,bE.mpr ⟨p5,_,rfl,f8.seqT (SqT.of e5),aV.mpr rfl⟩,aP.mpr ⟨_,_,rfl,kW.mpr rfl,aV.mpr rfl⟩⟩⟩⟩⟩⟩⟩⟩⟩⟩
  have D9':=(Vw.grow (S:=[t]) (o:=.lst [.ref p1,.ref p2,.ref l1,.non,.str "1",.int 0,.ref p3,.ref p4,.ref p5,.str ""]) hfl).denAll _ _ D8
  have sD:=aF.new (o:=.lst [.ref p1,.ref p2,.ref l1,.non,.str "1",.int 0,.ref p3,.ref p4,.ref p5,.str ""]) hfl
  have e6:upd H8 fl (.lst [.ref p1,.ref p2,.ref l1,.non,.str "1",.int 0,.ref p3,.ref p4,.ref p5,.str ""]) fl=some (.lst [.ref p1,.ref p2,.ref l1,.non,.str "1",.int 0,.ref p3,.ref p4,.ref p5,.str ""]):=aC
  generalize upd H8 fl (.lst [.ref p1,.ref p2,.ref l1,.non,.str "1",.int 0,.ref p3,.ref p4,.ref p5,.str ""])=H9 at sD e6 D9' ⊢
  have s69:=sB.trans (sC.trans sD)
  have s59:=sA.trans s69
  have s49:=s5.trans s59
  have s29:=(s3.trans s4).trans s49
  have f9:=f2.same s29
  have T9:=T2.same s29
  have hc9:=s29.seqT hc2
  have nfl:H2 fl=none:=(((s3.trans s4).trans s5).trans (sA.trans (sB.trans sC))).free hfl
  have ntf:t≠fl:=fun z=>by obtain ⟨p,q,_,e⟩:=T2.1; rw [<- z,e] at nfl; cases nfl
  have F:Far K a fl ns:=yN T2.2 nfl
  have hfl0:H fl=none:=b02.free nfl (Ne.symm ntf)
  refine ⟨[fl,t],far,rfl,fx2 T9 e6,fun pb bs H10 s10 npb hpb hbs=>?_⟩
  have npf:pb≠fl:=fun z=>by rw [z,e6] at npb; cases npb
  have fl10:=s10 _ _ e6
  have T10:=T9.same s10
  have hc10:=s10.seqT hc9
  refine ⟨pb,rfl,⟨_,SqL.of hpb⟩,jO (K:=K) (a:=pb) (xs:=bs) (fun i σ H5=>∃ xs ds v,σ = [some (.ref t),some (.ref c),some (.int far),some (.int m),some (.ref fl),v]/\H5 fl=some (.lst xs)/\aU K (Vw [fl,t] H5) ds xs/\(∀ d∈ds,jJ n d=false)/\(∀ d∈ds,∀ es,d=.tuple es->es.length<=1000)/\ds.length=10+i/\But fl H10 H5)
   ⟨_,nr0 rs,none,rfl,fl10,(Vw.same s10).denAll _ _ D9',aEO hn1 hrl,aEP (by omega),rfl,But.refl _ _⟩ (fun i σ H5 _ ⟨_,_,_,_,_,_,_,_,_,b5⟩=>b5.seqL npf (SqL.of hpb)) ?_ ?_⟩
  ·rintro i y σ H11 hy ⟨xs,ds,v,rfl,hx5,hd,hno,hsz,hl,b5⟩
   have hi:i < bs.length:=(Qc.mp hy).1
   have hb11:bs.length=11:=aN hbs
   have hxl:=aN hd
   obtain ⟨d,hdi,hdy⟩:=cC ((But.vw (S:=[fl,t]) b5 (Qo ..)).denAll _ _ hbs) hy
   have hbw:=aDE hf0 d (Qj hdi)
   have hc11:=b5.seqT fl10 hc10
   refine ⟨_,rfl,.inl ⟨rfl,_,SqL.of hx5⟩,_,rfl,_,rfl,_,rfl,c,_,rfl,hc11,fun r1 H12 s12 g1=>?_⟩
   rw [aCU,<- List.map_take] at g1
   refine ⟨_,rfl,sz1 _,fun r2 hr2=>?_⟩
   have l1':((rs.take m).map V.int).length<=6:=by rw [Qb,Jd]; omega
   refine ⟨r1,r2,_,_,rfl,rfl,(aF.new hr2).seqT g1,SqT.of aC,by rw [sizeLine_eq]; show _+1<=_; omega,fun r3 H13 s13 g3=>?_⟩
   have s1113:=s12.trans ((aF.new (o:=.tup [y]) hr2).trans s13)
   refine ⟨_,rfl,_,rfl,_,_,rfl,rfl,_,rfl,c,_,rfl,s1113.seqT hc11,fun r4 H14 s14 g4=>?_⟩
   rw [show (m:Int)+1=((m+1:Nat):Int) by omega,rZ,<- List.map_drop] at g4
   have l4':((rs.drop (m+1)).map V.int).length<=6:=by rw [Qb,Jt]; omega
   refine ⟨r3,r4,_,_,rfl,rfl,s14.seqT g3,g4,by rw [sizeLine_eq,Qs]; show _+1+_<=_; omega,fun r5 H15 s15 g5=>?_⟩
   have s1115:=s1113.trans (s14.trans s15)
   have hx15:=s1115 _ _ hx5
   have T15:=((T10.wr b5 ntf F)).same s1115
   have f15:Fx [fl,t] H15:=fx2 T15 hx15
   refine ⟨fl,xs,.ref r5,rfl,rfl,hx15,by rw [sizeLine_eq]; omega,?_⟩
   have key:Den K (Vw [fl,t] H15) (.tuple ((rs.take m).map .int++[d]++(rs.drop (m+1)).map .int)) (.ref r5):=bE.mpr ⟨r5,_,rfl,f15.seqT g5,aY (aY (cJ.mpr rfl) (aP.mpr ⟨_,_,rfl,(Vw.same s1115).den _ _ hdy,aV.mpr rfl⟩)) (cJ.mpr rfl)⟩
   have b16:But fl H15 (upd H15 fl (.lst (xs++[.ref r5]))):=But.at
   refine ⟨xs++[.ref r5],ds++[.tuple ((rs.take m).map .int++[d]++(rs.drop (m+1)).map .int)],_,rfl,aC,(But.vw (S:=[fl,t]) b16 (Qo ..)).denAll _ _ (aY ((Vw.same s1115).denAll _ _ hd) (aP.mpr ⟨_,_,rfl,key,aV.mpr rfl⟩)),fun d2 h2=>?_,fun d2 h2=>?_,by rw [Qs,hl]; show 10+i+1=_; omega,b5.trans ((But.of s1115).trans b16)⟩
   ·rcases Jf.mp h2 with h | h
    ·exact hno d2 h
    ·rw [Qr.mp h]
     exact sZ (Jq _ (Jc _ (Jj _))) hbw
   ·rcases Jf.mp h2 with h | h
    ·exact hsz d2 h
    ·rw [Qr.mp h]
     intro es e
     injection e with e
     subst e
     rw [Qs,Qs,Qb,Qb,Jd,Jt]
     show _+1+_<=_
     omega
  ·rintro σ H11 ⟨xs,ds,v,rfl,hx5,hd,hno,hsz,hl,b5⟩
   exact ⟨_,rfl,k fl xs ds H11 (fun b o nb hb=>b5 b o (fun z=>by rw [z,hfl0] at hb; cases hb) (s10 _ _ (s29 _ _ (b02 b o nb hb)))) (T10.wr b5 ntf F) hx5 (Ne.symm ntf) (Vw.less.denAll _ _ hd) hno hsz⟩
end
end Ab
namespace L2
open PySem
section
variable {K:PySem.W.Frag} {S:List Addr} {H H' H0:Hp} {σ:St} {te ta tb ts:TE} {t tr:TA} {tl th:TO}
abbrev TIs (K:PySem.W.Frag) (S:List Addr) (n:Nat):Hp->V->Prop:=DTe K S II n
theorem TIs.up {n m:Nat} {x:V} (h:TIs K S n H x) (l:n<=m):TIs K S m H x:=let ⟨a,xs,h1,h2,h3,h4⟩:=h; ⟨a,xs,h1,h2,Qx h3 l,h4⟩
theorem TIs.keep {n:Nat} {x:V} (h:TIs K S n H x) (e:aF (Vw S H) (Vw S H')):TIs K S n H' x:=let ⟨a,xs,h1,h2,h3,h4⟩:=h; ⟨a,xs,h1,e.seqT h2,h3,h4⟩
theorem Al.ti {n:Nat} (h:Al H0 S te σ (TIs K S n)) (l:n<=12:=by decide):Al H0 S te σ (TIs K S 12):=h.weak fun _ _ r=>r.up l
theorem Al.ii {i:Int} (h:Al H0 S te σ fun _ v=>v=.int i):Al H0 S te σ II:=h.weak fun _ _ r=>⟨i,r⟩
theorem aCx {n:Nat} (ha:Al H0 S ta σ fun _ v=>v=.int n) (hn:n<=1000):Al H0 S (tCB (fun xs H Q=>∃ (a:Addr) (n:Nat),xs = [.ref a]/\H a=some (.rng 0 n)/\n<=1000/\∀ p H',aF H H'->SqT K H' p ((cV n).map V.int)->Q (.ref p) H') (lZ (tCB (fun xs H Q=>∃ j,xs = [.int j]/\∀ p,H p=none->Q (.ref p) (upd H p (.rng 0 j))) (lZ ta qZ)) qZ)) σ (TIs K S n):=fun H s f Q k=>ha H s f _ fun v H1 s1 e=>⟨n,by rw [e],fun p hp=>⟨p,n,rfl,aC,hn,fun q H' s' hq=>k _ H' (s1.trans ((aF.new hp).trans s')) ⟨q,_,rfl,(((f.same s1).same (aF.new hp)).same s').seqT hq,by rw [Qb,Ab.kH]; exact Qi _,fun y hy=>by
 obtain ⟨i,hi,rfl⟩:=Jl.mp hy
 exact ⟨i,rfl⟩⟩⟩⟩
theorem TIs.ints {n:Nat} {x:V} (h:TIs K S n H x):∃ (q:Addr) (ls:List Int),x=.ref q/\SqT K H q (ls.map V.int)/\ls.length<=n:=by
 obtain ⟨a,xs,h1,h2,h3,h4⟩:=h
 have:∀ xs:List V,(∀ y∈xs,II H y)->∃ ls:List Int,xs=ls.map V.int:=fun xs=>by
  induction xs with
  | nil=>exact fun _=>⟨[],rfl⟩
  | cons y r ih =>
   intro h
   obtain ⟨i,rfl⟩:=h y (Qo ..)
   obtain ⟨ls,rfl⟩:=ih fun z hz=>h z (Qm _ hz)
   exact ⟨i::ls,rfl⟩
 obtain ⟨ls,rfl⟩:=this xs h4
 exact ⟨a,ls,h1,Vw.sub.seqT h2,by rwa [Qb] at h3⟩
theorem aDY {v:V}:Al H0 S (tC v) σ (fun _ x=>x=v):=aBG rfl
theorem aDH {a:Addr} {xs:List V} (ha:Al H0 S ta σ fun H v=>v=.ref a/\SqT K H a xs):Al H0 S (tCB (fun xs H Q=>∃ p ys,xs = [.ref p]/\(SqL K H p ys∨SqT K H p ys)/\Q (.int ys.length) H) (lZ ta qZ)) σ fun _ v=>v=.int xs.length:=fun H s f Q k=>ha H s f _ fun v H1 s1 ⟨e,h⟩=>⟨a,xs,by rw [e],.inr h,k _ _ s1 rfl⟩
theorem aCy {n c:Nat} {E:Hp->V->Prop} [M:Mo E] (ha:Al H0 S ta σ (DTe K S E n)) (hb:Al H0 S tb σ fun _ v=>v=.int c) (h2:c<=1000) (hn:n<=1000):Al H0 S (tOp (aDQ K) ta tb) σ (DTe K S E (c*n)):=fun H s f Q k=>ha H s f _ fun v H1 s1 d1=>hb H1 (s.trans s1) (f.same s1) _ fun u H2 s2 e=>by
 obtain ⟨a,xs,rfl,q1,q2,q3⟩:=d1
 refine ⟨a,c,xs,rfl,e,s2.seqT (Vw.sub.seqT q1),h2,by omega,fun p H' s' hp=>k _ H' (s1.trans (s2.trans s')) ⟨p,_,rfl,(((f.same s1).same s2).same s').seqT hp,?_,fun y hy=>?_⟩⟩
 ·rw [oI]; exact Yr (Qi _) q2
 ·obtain ⟨l,hl,hy⟩:=List.mem_flatten.mp hy
  rw [Xt hl] at hy
  exact M.mo (s2.trans s') (q3 y hy)
theorem aCz {te:TE} {i:Nat} {u:TS} {D:Ends} {σ:St} {H:Hp} (h:te σ H fun v H1=>u D (σ.set i (some v)) H1):uW (lB te (fU i)) u D σ H:=h
theorem aAt {S:List Addr} {H:Hp} {t:TA} {σ:St} {E:Hp->V->Prop} {Q:VK} {n:Nat} (f:Fx S H) (h:AlE H S E n t σ) (k:∀ p xs H1,aF H H1->H1 p=none->xs.length=n->(∀ x∈xs,E H1 x)->Q (.ref p) (upd H1 p (.lst xs))) (hn:n<=1000:=by decide):aCM t σ H Q:=h H (aF.refl H) f _ fun vs H1 s1 l d=>⟨by rw [l]; exact Xu (kU hn),fun p hp=>k p vs H1 s1 hp l d⟩
theorem DTe.dn {n:Nat} {x:V} (h:DTe K S (Dn K S) n H x):Dn K S H x:=by
 obtain ⟨a,xs,rfl,h2,_,h4⟩:=h
 obtain ⟨ds,hds⟩:=tN h4
 exact ⟨.tuple ds,bE.mpr ⟨a,xs,rfl,h2,hds⟩⟩
end
end L2
namespace Ab
open PySem L2
section
variable {P:Program} {w:World} {K:PySem.W.Frag} {mg:Str->Option Value} {base:Heap}
def aCA (K:PySem.W.Frag):Sp:=fun vs H Q _=>∃ (t a:Addr) (ns:List Int) (x:V) (n:Int) (ws:List (List Int)),vs = [.ref t,x]/\dM K H t a ns/\Den K H (bY n ws) x/\bN (bY n ws)=true /\
 ∀ (rp hp:Addr) (z1:V) (d:PyData) (ls:List Int) (m:Int) H',But t H H'->dM K H' t a ns->SqT K H' rp [z1,.ref hp,.int m]->Den K H' d z1->SqT K H' hp (ls.map V.int)->ls.length<=20->Q (.ref rp) H'
theorem qX:FnScope ["tape", "book", "far", "things", "hands", "number"] ["tape", "book"] (aO wM):=⟨rfl,rfl,rfl,by decide +kernel,rfl,by decide +kernel,by decide +kernel⟩
set_option maxHeartbeats 2000000 in
theorem aDI {f fD:Addr} {fd fdD:FuncData} (G:Fn K mg "_law_b_rest" wM ["tape", "book"] f fd) (B:Bl mg) (GD:Fn K mg "_law_b_digit" jB ["tape", "many"] fD fdD) (OD:FnOk P w K mg base CX0 2 fD fdD ["tape", "many"] (iA K)):FnOk P w K mg base CX0 3 f fd ["tape", "book"] (aCA K):=by
 refine G.fn.ok qX (fun vs H Q E h=>?_) (fun cdv A outer s H vs Q E hr h=>?_)
 ·obtain ⟨t,a,ns,x,n,ws,rfl,_⟩:=h
  rfl
 ·obtain ⟨t,a,ns,x,n,ws,rfl,hT,hx,hb,k⟩:=h
  have r2:Room 2 _:=hr
  refine PSso.ex (bG ⟨(aX (i:=2) qX.nd rfl (Or.inl rfl) (bI GD OD r2 rfl (aA (pv 0) (aA (bB tH aH aH) aE))))⟩ (bG (gK (i:=3) qX.nd rfl (Or.inl rfl) (mJ (aQ tT (aQ (eN cO) (aQ ⟨(bB (aDh (K:=K) rfl) (eY (aA iR aE)) (aT (rM (K:=K) rfl) rfl B.len gD (aA (bO (jE (K:=K) rfl) (pv 1) aH (fun _ _=>rfl)) aE)))⟩ (aQ ⟨(cA cI rfl B.tuple cP (aA (dX (own:=["able"]) (fr:=[]) (frn:=[]) (bT (aO wM) ["tape", "book", "far", "things", "hands", "number"] rfl rfl (by decide +kernel)) rfl (iC (bO (jE (K:=K) rfl) (pv 1) aH (fun _ _=>rfl)))
    (fun _ _ _ _=>(aS (i:=0) (show (["able"]:List Str).Nodup by decide +kernel) rfl (Or.inl rfl))) (fun _ _ _ _=>iE)
    (fun _ _ _ _=>(bO (jE (K:=K) rfl) (pv 0) aH (fun _ _=>rfl)))) aE))⟩ (aQ dL (aQ (mJ cO) (aQ (eN (aQ tT (aQ fZ (aQ fZ cO aD) aD) aD)) cO aJ) lO) aD) tQ) lP) aJ) aD))) (bG (gK (i:=4) qX.nd rfl (Or.inl rfl) (mJ (aQ (eN cO) (aQ (eN (aQ fZ cO aD)) (aQ (eN (aQ fZ (aQ fZ cO aD) aD)) (aQ (eN (aQ fZ (aQ fZ cO aD) aD)) (aQ (eN (aQ ⟨rP mV aH⟩ cO sF)) (aQ (eN (aQ ⟨bO (jE (K:=K) rfl) (pv 1) aH (fun _ _=>rfl)⟩ cO aBJ)) (aQ (eN (aQ ⟨bB cQ (pv 2) aH⟩ cO lP)) (aQ ⟨(cA (kA rfl) rfl B.tuple cP (aA (cA nV rfl B.range aAc (aA (bO (jE (K:=K) rfl) (pv 1) aH (fun _ _=>rfl)) aE)) aE))⟩ (aQ (eN (aQ fZ (aQ fZ cO aD) aD)) cO aJ) tQ) aJ) aJ) aJ) aJ) aJ) aJ) aJ))) (bG ⟨(aX (i:=5) qX.nd rfl (Or.inl rfl) (bO cB (dE (aA aH (aA (rP mV aH) (aA aH (aA (pv 2) (aA (bB xL aH (pv 2)) aE)))))) (bI GD OD r2 rfl (aA (pv 0) (aA aH aE))) (fun _ _=>rfl)))⟩ (gT ⟨(bA (eY (aA (bO cB (pv 3) (bI GD OD r2 rfl (aA (pv 0) (aA aH aE))) (fun _ _=>rfl)) (aA (bO cB (pv 4) (bI GD OD r2 rfl (aA (pv 0) (aA aH aE))) (fun _ _=>rfl)) (aA (pv 5) aE)))))⟩))))) ?_
  obtain ⟨hn1,hn6,hw12,hws⟩:=cK hb
  obtain ⟨nn,rfl⟩:∃ nn:Nat,n=nn:=⟨n.toNat,by omega⟩
  obtain ⟨ba,bb,ys,rfl,ha,hb2,hys⟩:=eJ hx
  have hlw:=aN hys
  rw [Qb] at hlw
  refine ⟨_,rfl,_,_,rfl,rfl,⟨by decide,by decide,by decide⟩,t,a,ns,100000000000000000000,rfl,hT,by decide,by decide,fun far H1 hf0 hf1 b1 T1=>?_⟩
  have ha1:=hT.seqT b1 ha
  have hb1:=hT.seqT b1 hb2
  have hys1:=b1.denAll hT.1.choose_spec.choose_spec.2 _ _ (bP _ bZ ws) hys
  dsimp only [fU]
  have bk1:∀ {σ:St},σ[1]?=some (some (.ref ba))->Al H1 [t] (tOp (aBl K) (jK 1) (tC (.int 1))) σ (fun H v=>v=.ref bb/\SqT K H bb ys):=fun h=>aBI (K:=K) (xs:=[.int nn,.ref bb]) (a:=ba) (xX h ⟨rfl,ha1⟩) aDY rfl ⟨rfl,hb1⟩
  refine aCz ?_
  refine aAt (S:=[t]) (E:=Dn K [t]) (n:=7) (fx1 T1) ?_ (fun p3 xs3 H3 s3 hp3 hl3 hE3=>?_)
  ·refine bF tO ?_
   refine bF (aBH tP).d ?_
   refine bF ?_ ?_
   ·exact (aCy (K:=K) (E:=Dn K [t]) (n:=1) (c:=ys.length) (gJ (bF tO fG)) (aDH (bk1 rfl)) (by omega) (by decide)).mono fun _ _ r=>r.dn
   refine bF ?_ (bF aCX (bF (aEr tP) (bF (aBH (pO tO (pO zO (pO zO tP)))).d fG)))
   intro H2 s2 f2 Q2 k2
   refine ⟨_,rfl,ba,_,1,.ref bb,rfl,rfl,s2.seqT ha1,rfl,bb,rfl,⟨_,s2.seqT hb1⟩,kE (K:=K) (a:=bb) (xs:=ys) (vs:=(ws.map fun l=>l.headD 0).map V.int) (fun σ=>∃ v,σ = [v]) (by omega) (by rw [Qb,Qb,hlw]) (s2.seqT hb1) ⟨none,rfl⟩ ?_ ?_⟩
   ·rintro i xv v σ H3 hxv hv ⟨v0,rfl⟩ s3 Q' hQ'
    obtain ⟨dv,hdv,denv⟩:=cC hys1 hxv
    rw [Qh] at hdv
    obtain ⟨l,hl,rfl⟩:∃ l,ws[i]?=some l/\cT l=dv:=by
     cases q:ws[i]? with
     | none=>rw [q] at hdv; cases hdv
     | some l=>rw [q] at hdv; exact ⟨l,rfl,Option.some.inj hdv⟩
    obtain ⟨aw,rfl,haw⟩:=cM.mp denv
    obtain ⟨l0,_,_⟩:=eT (hws l (Qj hl))
    have hat:atI (l.map V.int) 0=some (.int (l.headD 0)):=by
     cases l with
     | nil=>exact absurd rfl l0
     | cons y l=>exact eZ (j:=0) rfl
    rw [Qh,Qh,hl] at hv
    obtain rfl:V.int (l.headD 0)=v:=Option.some.inj hv
    exact ⟨_,rfl,aw,_,0,_,rfl,rfl,(s2.trans s3).seqT haw,hat,hQ' _ _ ⟨_,rfl⟩ (aF.refl _)⟩
   ·rintro H3 s3 z hz
    refine ⟨z,_,rfl,.inl ⟨SqL.of aC,fun q hq=>?_⟩⟩
    have s4:=(aF.new (o:=.lst ((ws.map fun l=>l.headD 0).map V.int)) hz).trans (aF.new (o:=.tup ((ws.map fun l=>l.headD 0).map V.int)) hq)
    have f4:=(f2.same s3).same s4
    exact k2 _ _ (s3.trans s4) (DT.ints (n:=12) f4 (SqT.of aC) (by rw [Qb]; omega)).dn
  have e3:Vw [t] (upd H3 p3 (.lst xs3)) p3=some (.lst xs3):=Vw.at ((fx1 T1).same s3) hp3
  have s3':=s3.trans (aF.new (o:=.lst xs3) hp3)
  have hE3':∀ y∈xs3,Dn K [t] (upd H3 p3 (.lst xs3)) y:=fun y hy=>(hE3 y hy).same (aF.new hp3)
  generalize upd H3 p3 (.lst xs3)=H4 at e3 s3' hE3' ⊢
  have T4:=T1.same s3'
  have ha4:=s3'.seqT ha1
  have bk0:∀ {σ:St} {H0:Hp},aF H4 H0->σ[1]?=some (some (.ref ba))->Al H0 [t] (tOp (aBl K) (jK 1) (tC (.int 0))) σ (fun _ v=>v=.int nn):=fun s h=>aBI (K:=K) (xs:=[.int nn,.ref bb]) (a:=ba) (xX h ⟨rfl,s.seqT ha4⟩) aDY rfl rfl
  refine aCz ?_
  refine aAt (S:=[t]) (E:=TIs K [t] 12) (n:=9) (fx1 T4) ?_ (fun p4 xs4 H5 s5 hp4 hl4 hE4=>?_)
  ·refine bF (Al.ti (gJ fG)) ?_
   refine bF (Al.ti (gJ (bF iX fG))) ?_
   refine bF (Al.ti (gJ (bF iX (bF iX fG)))) ?_
   refine bF (Al.ti (gJ (bF iX (bF iX fG)))) ?_
   refine bF (Al.ti (gJ (bF (aFi iX) fG))) ?_
   refine bF (Al.ti (gJ (bF (bk0 (aF.refl _) rfl).ii fG))) ?_
   refine bF (Al.ti (gJ (bF (aEs (xX rfl ⟨far,rfl⟩) iX) fG))) ?_
   refine bF ((aCx (K:=K) (bk0 (aF.refl _) rfl) (by omega)).mono fun _ _ r=>r.up (by omega)) ?_
   exact bF (Al.ti (gJ (bF iX (bF iX fG)))) fG
  have e4:Vw [t] (upd H5 p4 (.lst xs4)) p4=some (.lst xs4):=Vw.at ((fx1 T4).same s5) hp4
  have s5':=s5.trans (aF.new (o:=.lst xs4) hp4)
  have hE4':∀ y∈xs4,TIs K [t] 12 (upd H5 p4 (.lst xs4)) y:=fun y hy=>Mo.mo (aF.new hp4) (hE4 y hy)
  generalize upd H5 p4 (.lst xs4)=H6 at e4 s5' hE4' ⊢
  have T6:=T4.same s5'
  have e36:=Vw.same (S:=[t]) s5' _ _ e3
  have hE36:∀ y∈xs3,Dn K [t] H6 y:=fun y hy=>(hE3' y hy).same s5'
  refine ⟨_,rfl,_,rfl,_,rfl,_,_,rfl,rfl,eM (show 5<=1000 by decide),fun nl hnl=>?_⟩
  have s7:=aF.new (o:=.lst [.int 0,.int (-1),.int 13,.int far,.int (0 - far)]) hnl
  have e7:upd H6 nl (.lst [.int 0,.int (-1),.int 13,.int far,.int (0 - far)]) nl=some (.lst [.int 0,.int (-1),.int 13,.int far,.int (0 - far)]):=aC
  have T7:=T6.same s7
  have e37:=Vw.same (S:=[t]) s7 _ _ e36
  have e47:=Vw.same (S:=[t]) s7 _ _ e4
  have hE37:∀ y∈xs3,Dn K [t] _ y:=fun y hy=>(hE36 y hy).same s7
  have hE47:∀ y∈xs4,TIs K [t] 12 _ y:=fun y hy=>Mo.mo s7 (hE4' y hy)
  have nnt:nl≠t:=T6.ne hnl
  generalize upd H6 nl (.lst [.int 0,.int (-1),.int 13,.int far,.int (0 - far)])=H7 at s7 e7 T7 e37 e47 hE37 hE47 ⊢
  refine ⟨_,rfl,t,a,ns,5,rfl,T7,by decide,by decide,fun r8 H8 h80 h81 b8 T8=>?_⟩
  obtain ⟨m,hm⟩:∃ m:Int,atI [V.int 0,V.int (-1),V.int 13,V.int far,V.int (0 - far)] r8=some (.int m):=by
   obtain ⟨j,rfl⟩:∃ j:Nat,r8=j:=⟨r8.toNat,by omega⟩
   match j,h81 with
   | 0,_=>exact ⟨0,rfl⟩
   | 1,_=>exact ⟨-1,rfl⟩
   | 2,_=>exact ⟨13,rfl⟩
   | 3,_=>exact ⟨far,rfl⟩
   | 4,_=>exact ⟨0 - far,rfl⟩
   | j+5,h=>omega
  refine ⟨nl,_,r8,_,rfl,rfl,SqL.of (b8 _ _ nnt e7),hm,?_⟩
  have v8:=But.vw (S:=[t]) b8 (Jj _)
  refine ⟨_,rfl,_,rfl,t,a,ns,7,rfl,T8,by decide,by decide,fun r9 H9 h90 h91 b9 T9=>?_⟩
  have v9:=v8.trans (But.vw (S:=[t]) b9 (Jj _))
  have e39:=v9 _ _ e37
  have hat9:atI xs3 r9=some (xs3[r9.toNat]'(by omega)):=by
   have:=eZ (Qd (l:=xs3) (i:=r9.toNat) (by omega))
   rwa [show ((r9.toNat:Nat):Int)=r9 by omega] at this
  have hz9:=Xv (l:=xs3) (n:=r9.toNat) (by omega)
  generalize xs3[r9.toNat]'(by omega)=z1 at hat9 hz9
  refine ⟨p3,_,r9,z1,rfl,rfl,SqL.of (Vw.sub _ _ e39),hat9,?_⟩
  refine ⟨_,rfl,_,rfl,t,a,ns,9,rfl,T9,by decide,by decide,fun r10 H10 h100 h101 b10 T10=>?_⟩
  have v10:=v9.trans (But.vw (S:=[t]) b10 (Jj _))
  have e410:=v10 _ _ e47
  have hat10:atI xs4 r10=some (xs4[r10.toNat]'(by omega)):=by
   have:=eZ (Qd (l:=xs4) (i:=r10.toNat) (by omega))
   rwa [show ((r10.toNat:Nat):Int)=r10 by omega] at this
  have hz10:=Xv (l:=xs4) (n:=r10.toNat) (by omega)
  generalize xs4[r10.toNat]'(by omega)=z2 at hat10 hz10
  refine ⟨p4,_,r10,z2,rfl,rfl,SqL.of (Vw.sub _ _ e410),hat10,?_⟩
  obtain ⟨hp,ls,rfl,hls,hlsl⟩:=((hE47 z2 hz10).keep v10).ints
  obtain ⟨d,hd⟩:=(hE37 z1 hz9).keep v10
  refine ⟨_,rfl,eM (show 3<=1000 by decide),fun rp hrp=>?_⟩
  have s11:=aF.new (o:=.tup [z1,.ref hp,.int m]) hrp
  exact k rp hp z1 d ls m _ (b1.trans ((But.of (s3'.trans (s5'.trans s7))).trans (b8.trans (b9.trans (b10.trans (But.of s11)))))) (T10.same s11) (SqT.of aC) (s11.den _ _ (Vw.sub.den _ _ hd)) (s11.seqT hls) (by omega)
end
theorem aCB {tA tB:TT} {σ:St} {H:Hp} {Q:Bool->Hp->Prop} (hA:∀ R:Bool->Hp->Prop,(∀ b,R b H)->tA σ H R) (hB:∀ R:Bool->Hp->Prop,(∀ b,R b H)->tB σ H R) (h:∀ b,Q b H):aCG tA tB σ H Q:=by
 refine hA _ fun b=>?_
 cases b with
 | false=>exact eQ (h false)
 | true=>exact eD (hB _ h)
theorem lA (v:V):(!decide (v=v))=false:=by simp
section
variable {P:Program} {w:World} {K:PySem.W.Frag} {mg:Str->Option Value} {base:Heap} {c:Nat->Addr}
def aAu (K:PySem.W.Frag) (Pt:Addr):Sp:=fun vs H Q _=>∃ (a:Addr) (ns:List Int),vs = [.ref a]/\SqL K H a (ns.map V.int)/\H Pt=some (.tab yU)/\∀ H',H' Pt=some (.tab yU)->Q (.bl true) H'
theorem kO:FnScope ["script", "tape", "k", "book", "rooms", "odd", "way", "rest"] ["script"] (aO aDj):=⟨rfl,rfl,rfl,by decide +kernel,rfl,by decide +kernel,by decide +kernel⟩
set_option maxHeartbeats 4000000 in
theorem aER {f fB fD fN fF fO fS fQ Pt:Addr} {fd dB fdD dN dF dO dS dQ:FuncData} (G:Fn K mg "law" aDj ["script"] f fd) (B:Bl mg) (GB:Fn K mg "_law_b_book" aAe ["tape", "hands", "works"] fB dB) (OB:FnOk P w K mg base CX0 4 fB dB ["tape", "hands", "works"] (aCc K))
  (GD:Fn K mg "_law_b_digit" jB ["tape", "many"] fD fdD) (OD:FnOk P w K mg base CX0 2 fD fdD ["tape", "many"] (iA K)) (GN:Fn K mg "_law_b_no_books" fT [] fN dN) (ON:FnOk P w K mg base CX0 1 fN dN [] (sX K))
  (GF:Fn K mg "_law_b_faulty" mL ["tape", "book"] fF dF) (OF:FnOk P w K mg base CX0 3 fF dF ["tape", "book"] (xH K)) (GO:Fn K mg "_law_b_none" wN ["tape", "rooms"] fO dO) (OO:FnOk P w K mg base CX0 3 fO dO ["tape", "rooms"] (aCw K))
  (GS:Fn K mg "_law_b_rest" wM ["tape", "book"] fS dS) (OS:FnOk P w K mg base CX0 3 fS dS ["tape", "book"] (aCA K)) (GQ:Fn K mg "_law_b_asked" uD ["way", "book", "rooms", "rest"] fQ dQ) (OQ:FnOk P w K mg base CX0 9 fQ dQ ["way", "book", "rooms", "rest"] (aAr K c Pt)) :
  FnOk P w K mg base CX0 10 f fd ["script"] (aAu K Pt):=by
 refine G.fn.ok kO (fun vs H Q E h=>?_) (fun cdv A outer s H vs Q E hr h=>?_)
 ·obtain ⟨a,ns,rfl,_⟩:=h
  rfl
 ·obtain ⟨a,ns,rfl,hns,hPt,k⟩:=h
  have r1:Room 1 _:=hr.mono (by decide)
  have r2:Room 2 _:=hr.mono (by decide)
  have r3:Room 3 _:=hr.mono (by decide)
  have r4:Room 4 _:=hr.mono (by decide)
  have r9:Room 9 _:=hr
  refine ⟨_,(aG (aX (i:=1) kO.nd rfl (Or.inr rfl) (dE (aA (pv 0) (aA aH (aA aH aE)))))
  (aG (eP PassesOwn.never rfl (eV rfl B.range (aA aH aE)) (aS (i:=2) kO.nd rfl (Or.inl rfl))
   (aG (bW (PW.pt (mU (aW zG (pv 2) aH (bD _)) (kQ (aW zH (bO cB (pv 1) aH (fun _ _=>rfl)) (aT bC rfl B.len gD (aA (pv 0) aE)) (bD _)))))
   (aL uX)
   bH)
  (aG (aX (i:=3) kO.nd rfl (Or.inl rfl) (bI GB OB r4 rfl (aA (pv 1) (aA aH (aA aH aE)))))
  (aG (aX (i:=4) kO.nd rfl (Or.inl rfl) (cA cI rfl B.tuple cP (aA (dX (own:=["hand"]) (fr:=[1]) (frn:=["tape"]) (bT (aO aDj) ["script", "tape", "k", "book", "rooms", "odd", "way", "rest"] rfl rfl (by decide +kernel)) rfl (eV rfl B.range (aA (bO eA (pv 3) aH (fun _ _=>rfl)) aE))
    (fun _ _ _ _=>(aS (i:=0) (show (["hand", "tape"]:List Str).Nodup by decide +kernel) rfl (Or.inl rfl))) (fun _ _ _ _=>iE)
    (fun _ _ _ _=>(bI GD OD r2 rfl (aA (pv 1) (aA aH aE))))) aE)))
  (aG (eP PassesOwn.never rfl (kR (bB jU (aBj ON r1 rfl GN.mgx GN.kp GN.bd .nil aDL) (bI GF OF r3 rfl (aA (pv 1) (aA (pv 3) aE))))) (aS (i:=5) kO.nd rfl (Or.inl rfl))
   (aL (eP PassesOwn.never rfl (eV rfl B.range (aA aH aE)) (aS (i:=6) kO.nd rfl (Or.inl rfl))
   (aG (aX (i:=7) kO.nd rfl (Or.inl rfl) (bI GS OS r3 rfl (aA (pv 1) (aA (pv 3) aE))))
  (aL (bW (PW.pt (iI (aW lE (bI GQ OQ r9 rfl (aA (pv 6) (aA (pv 5) (aA (pv 4) (aA (pv 7) aE))))) iS (bD _)) (gE (aW lE (bI GQ OQ r9 rfl (aA (pv 6) (aA (pv 5) (aA iR (aA (pv 7) aE))))) iS (bD _)))))
   (aL (bA eX))
   bH))))))
  (aG (eP PassesOwn.never rfl (kR (bI GO OO r3 rfl (aA (pv 1) (aA (pv 4) aE)))) (aS (i:=5) kO.nd rfl (Or.inl rfl))
   (aL (eP PassesOwn.never rfl (aAz rfl B.range (aA aH (aA aH aE))) (aS (i:=6) kO.nd rfl (Or.inl rfl))
   (aL (bW (aW lE (bI GQ OQ r9 rfl (aA (pv 6) (aA (pv 3) (aA (pv 5) (aA (bI GS OS r3 rfl (aA (pv 1) (aA (pv 3) aE))) aE))))) iS (bD _))
   (aL (bA eX))
   bH)))))
  (aL (eP PassesOwn.never rfl (eV rfl B.range (aA aH aE)) (aS (i:=6) kO.nd rfl (Or.inl rfl))
   (aL (bW (aW lE (bI GQ OQ r9 rfl (aA (pv 6) (aA (pv 3) (aA (pv 4) (aA (bI GS OS r3 rfl (aA (pv 1) (aA (pv 3) aE))) aE))))) iS (bD _))
   (aL (bA eX))
   bH))))))))))
  (aL (bA eX)))),?_⟩
  refine ⟨_,rfl,eM (show 3<=1000 by decide),fun t ht=>?_⟩
  have hTape:dM K (upd H t (.lst [.ref a,.int 0,.int 0])) t a ns:=⟨⟨0,0,by decide,aC⟩,(aF.new ht).seqL hns⟩
  have nPt:Pt≠t:=fun z=>by rw [z,ht] at hPt; cases hPt
  have pt1:=(aF.new (o:=.lst [.ref a,.int 0,.int 0]) ht) _ _ hPt
  generalize upd H t (.lst [.ref a,.int 0,.int 0])=H1 at hTape pt1 ⊢
  refine ⟨3,rfl,by decide,by decide,iJ (lo:=0) (n:=3) (fun i σ H2=>(∃ v1 v2 v3 v4 v5 v6,σ = [some (.ref a),some (.ref t),v1,v2,v3,v4,v5,v6])/\dM K H2 t a ns/\H2 Pt=some (.tab yU)) ⟨⟨none,none,none,none,none,none,rfl⟩,hTape,pt1⟩ ?_ ?_⟩
  ·rintro i σ H2 hi ⟨⟨v1,v2,v3,v4,v5,v6,rfl⟩,T2,p2⟩
   obtain ⟨⟨pp2,q2,hp2,ht2⟩,hns2⟩:=id T2
   refine aCB (fun R hR=>⟨_,rfl,_,_,rfl,rfl,_,rfl,hR _⟩) (fun R hR=>⟨_,rfl,t,_,1,.int pp2,rfl,rfl,SqL.of ht2,rfl,_,rfl,a,_,rfl,.inl hns2,_,_,rfl,rfl,_,rfl,hR _⟩) (fun b=>?_)
   refine cR (fun _=>?_) (fun _=>?_)
   ·exact k _ p2
   refine ⟨_,rfl,t,a,ns,rfl,T2,fun n ws bp H3 hb b3 T3 hbk=>?_⟩
   have hbn:=wQ n ws
   obtain ⟨hn1,hn6,hw12,hws⟩:=cK hb
   obtain ⟨ba,bb,ys,ebp,ha3,hb23,hys3⟩:=eJ hbk
   obtain rfl:bp=ba:=by injection ebp
   refine ⟨_,rfl,bp,_,0,.int n,rfl,rfl,ha3,rfl,n,rfl,by omega,by omega,iW (lo:=0) (n:=n.toNat) (fun σ=>∃ v,σ = [v,some (.ref t)]) (fun j zs H4=>∃ l:List Int,zs=l.map V.int/\l.length=j/\(∀ r∈l,0<=r/\r<=12)/\But t H3 H4/\dM K H4 t a ns) (eM (by omega)) ⟨none,rfl⟩ ⟨[],rfl,rfl,fun _ h=>(Qn h).elim,But.refl t H3,T3⟩ ?_ ?_ ?_⟩
   ·rintro j zs H4 ⟨l,rfl,h,_⟩
    rw [Qb]; exact Yz h
   ·rintro j zs σ H4 hj ⟨v,rfl⟩ ⟨l,rfl,hl,hr12,b4,T4⟩ hz
    refine jD ?_
    refine ⟨_,rfl,t,a,ns,13,rfl,T4,by decide,by decide,fun r5 H5 h50 h51 b5 T5=>?_⟩
    refine ⟨hz,⟨_,rfl⟩,l++[r5],by rw [Qy]; rfl,by rw [Qs,hl]; rfl,fun r hr'=>?_,b4.trans b5,T5⟩
    rcases Jf.mp hr' with h | h
    ·exact hr12 r h
    ·rw [Qr.mp h]; omega
   ·rintro zs H4 ⟨rs,rfl,hrl,hr12,b4,T4⟩ z hz
    refine ⟨z,_,rfl,.inl ⟨SqL.of aC,fun q hq=>?_⟩⟩
    have sq:=(aF.new (o:=.lst (rs.map V.int)) hz).trans (aF.new (o:=.tup (rs.map V.int)) hq)
    have q5:upd (upd H4 z (.lst (rs.map V.int))) q (.tup (rs.map V.int)) q=some (.tup (rs.map V.int)):=aC
    generalize upd (upd H4 z (.lst (rs.map V.int))) q (.tup (rs.map V.int))=H5 at sq q5 ⊢
    have T5:=T4.same sq
    have b25:=b3.trans (b4.trans (But.of sq))
    have bk5:=T3.den (b4.trans (But.of sq)) hbn hbk
    have ro:gL n rs:=⟨hrl,hr12⟩
    refine ⟨[t],rfl,fx1 T5,fun p1 xs1 H6 s6 n6 e6 d6=>?_⟩
    have T6:=T5.same s6
    refine ⟨_,rfl,_,rfl,t,a,ns,.ref bp,n,ws,rfl,T6,s6.den _ _ bk5,hb,fun p2' xs2 ds2 H7 b7 T7 e7 ne7 d7 no7 l7=>?_⟩
    have l1:xs1.length=41:=aN d6
    have l2:xs2.length=14:=(aN d7).trans l7
    refine ⟨p1,p2',xs1,xs2,rfl,rfl,b7 p1 _ (T5.ne n6) e6,e7,eM (by omega),fun p3 h3=>?_⟩
    have s8:=aF.new (o:=.lst (xs1++xs2)) h3
    have n3t:p3≠t:=T7.ne h3
    have e8:upd H7 p3 (.lst (xs1++xs2)) p3=some (.lst (xs1++xs2)):=aC
    have d8:=(Vw.same (S:=[t]) s8).denAll _ _ (aY ((But.vw (S:=[t]) b7 (Jj _)).denAll _ _ d6) d7)
    have T8:=T7.same s8
    have no8:∀ d∈oP++ds2,bN d=false:=fun d h=>(Jf.mp h).elim (yX d) (no7 d)
    have b58:But t H5 (upd H7 p3 (.lst (xs1++xs2))):=(But.of s6).trans (b7.trans (But.of s8))
    generalize upd H7 p3 (.lst (xs1++xs2))=H8 at e8 d8 T8 b58 ⊢
    generalize xs1++xs2=xs8 at e8 d8
    have bk:∀ {H'},But t H5 H'->Den K H' (bY n ws) (.ref bp):=fun b=>T5.den b hbn bk5
    have hq:∀ {H'},But t H5 H'->SqT K H' q (rs.map V.int):=fun b=>T5.seqT b (SqT.of q5)
    refine ⟨p3,rfl,⟨_,SqL.of e8⟩,jO (K:=K) (a:=p3) (xs:=xs8) (fun _ σ H9=>∃ v5 v6 v7,σ = [some (.ref a),some (.ref t),some (.int (0+(i:Int))),some (.ref bp),some (.ref q),v5,v6,v7]/\But t H8 H9/\dM K H9 t a ns) ⟨_,_,_,rfl,But.refl _ _,T8⟩ (fun _ σ H9 _ ⟨_,_,_,_,b9,_⟩=>b9.seqL n3t (SqL.of e8)) ?_ ?_⟩
    ·rintro j x σ H9 hx ⟨v5,v6,v7,rfl,b9,T9⟩
     obtain ⟨d,hdi,hdx⟩:=cC d8 hx
     have hno:=no8 d (Qj hdi)
     have dx:∀ {H'},But t H8 H'->Den K H' d x:=fun b=>Vw.sub.den _ _ ((But.vw (S:=[t]) b (Jj _)).den _ _ hdx)
     refine ⟨4,rfl,by decide,by decide,iJ (lo:=0) (n:=4) (fun _ σ H10=>∃ v6 v7,σ = [some (.ref a),some (.ref t),some (.int (0+(i:Int))),some (.ref bp),some (.ref q),some x,v6,v7]/\But t H8 H10/\dM K H10 t a ns) ⟨_,_,rfl,b9,T9⟩ ?_ ?_⟩
     ·rintro w' σ H10 hw ⟨v6,v7,rfl,b10,T10⟩
      refine ⟨_,rfl,_,rfl,t,a,ns,.ref bp,n,ws,rfl,T10,bk (b58.trans b10),hb,fun rp hp z1 dz ls m H11 b11 T11 hrp hdz hls hll=>?_⟩
      have b811:=b10.trans b11
      refine ⟨_,rfl,_,rfl,_,rfl,_,rfl,_,x,.ref q,rp,z1,.ref hp,.int m,rfl,by omega,by omega,hrp,.inr ⟨0, "book",by decide,rfl,.inl ⟨d,dx b811,hno,rfl⟩,fun H12 s12=>⟨rfl,_,rfl,?_⟩⟩⟩
      rw [lA]
      refine eQ ?_
      have b812:=b811.trans (But.of s12)
      refine ⟨_,rfl,_,rfl,_,rfl,_,x,.non,rp,z1,.ref hp,.int m,rfl,by omega,by omega,s12.seqT hrp,.inr ⟨0, "book",by decide,rfl,.inl ⟨d,dx b812,hno,rfl⟩,fun H13 s13=>⟨rfl,_,rfl,?_⟩⟩⟩
      rw [lA]
      refine eQ ?_
      exact ⟨_,_,rfl,b812.trans (But.of s13),T11.same (s12.trans s13)⟩
     ·rintro σ H10 ⟨v6,v7,rfl,b10,T10⟩
      exact ⟨_,_,_,rfl,b10,T10⟩
    ·rintro σ H9 ⟨v5,v6,v7,rfl,b9,T9⟩
     have b59:=b58.trans b9
     refine ⟨_,rfl,_,rfl,t,a,ns,q,n,rs,rfl,T9,hq b59,ro,hn1,hn6,fun p4 xs4 ds4 H10 b10 T10 e10 ne10 d10 no10 sz10=>?_⟩
     have b510:=b59.trans b10
     refine ⟨p4,rfl,⟨_,SqL.of e10⟩,jO (K:=K) (a:=p4) (xs:=xs4) (fun _ σ H11=>∃ v5 v6 v7,σ = [some (.ref a),some (.ref t),some (.int (0+(i:Int))),some (.ref bp),some (.ref q),v5,v6,v7]/\But t H10 H11/\dM K H11 t a ns) ⟨_,_,_,rfl,But.refl _ _,T10⟩ (fun _ σ H11 _ ⟨_,_,_,_,b11,_⟩=>b11.seqL ne10 (SqL.of e10)) ?_ ?_⟩
     ·rintro j x σ H11 hx ⟨v5,v6,v7,rfl,b11,T11⟩
      obtain ⟨d,hdi,hdx⟩:=cC d10 hx
      have hno:=no10 d (Qj hdi)
      have hsz:=sz10 d (Qj hdi)
      have dx:∀ {H'},But t H10 H'->Den K H' d x:=fun b=>Vw.sub.den _ _ ((But.vw (S:=[t]) b (Jj _)).den _ _ hdx)
      refine ⟨1,4,rfl,⟨by decide,by decide,by decide,by decide⟩,iJ (lo:=1) (n:=3) (fun _ σ H12=>∃ v6 v7,σ = [some (.ref a),some (.ref t),some (.int (0+(i:Int))),some (.ref bp),some (.ref q),some x,v6,v7]/\But t H10 H12/\dM K H12 t a ns) ⟨_,_,rfl,b11,T11⟩ ?_ ?_⟩
      ·rintro w' σ H12 hw ⟨v6,v7,rfl,b12,T12⟩
       refine ⟨_,rfl,_,rfl,_,rfl,_,rfl,_,rfl,t,a,ns,.ref bp,n,ws,rfl,T12,bk (b510.trans b12),hb,fun rp hp z1 dz ls m H13 b13 T13 hrp hdz hls hll=>?_⟩
       have b1013:=b12.trans b13
       refine ⟨_,.ref bp,x,rp,z1,.ref hp,.int m,rfl,by omega,by omega,hrp,.inr ⟨4, "rooms",by decide,rfl,.inr ⟨by omega,.inr ⟨n,ws,d,bk (b510.trans b1013),hb,dx b1013,hsz,hno,rfl⟩⟩,fun H14 s14=>⟨rfl,_,rfl,?_⟩⟩⟩
       rw [lA]
       refine eQ ?_
       exact ⟨_,_,rfl,b1013.trans (But.of s14),T13.same s14⟩
      ·rintro σ H12 ⟨v6,v7,rfl,b12,T12⟩
       exact ⟨_,_,_,rfl,b12,T12⟩
     ·rintro σ H11 ⟨v5,v6,v7,rfl,b11,T11⟩
      have b511:=b510.trans b11
      refine ⟨4,rfl,by decide,by decide,iJ (lo:=0) (n:=4) (fun _ σ H12=>∃ v5 v6 v7,σ = [some (.ref a),some (.ref t),some (.int (0+(i:Int))),some (.ref bp),some (.ref q),v5,v6,v7]/\But t H5 H12/\dM K H12 t a ns) ⟨_,_,_,rfl,b511,T11⟩ ?_ ?_⟩
      ·rintro w' σ H12 hw ⟨v5,v6,v7,rfl,b12,T12⟩
       refine ⟨_,rfl,_,rfl,_,rfl,_,rfl,_,rfl,t,a,ns,.ref bp,n,ws,rfl,T12,bk b12,hb,fun rp hp z1 dz ls m H13 b13 T13 hrp hdz hls hll=>?_⟩
       have b513:=b12.trans b13
       refine ⟨_,.ref bp,.ref q,rp,z1,.ref hp,.int m,rfl,by omega,by omega,hrp,.inl ⟨n,ws,rs,q,hp,dz,ls,m,⟨bk b513,hb,rfl,hq b513,ro,hdz,rfl,hls,hll,rfl,(b25.trans b513) _ _ nPt p2⟩,fun H14 s14=>⟨rfl,_,rfl,?_⟩⟩⟩
       rw [lA]
       refine eQ ?_
       exact ⟨_,_,_,rfl,b513.trans (But.of s14),T13.same s14⟩
      ·rintro σ H12 ⟨v5,v6,v7,rfl,b12,T12⟩
       exact ⟨⟨_,_,_,_,_,_,rfl⟩,T12,(b25.trans b12) _ _ nPt p2⟩
  ·rintro σ H2 ⟨_,_,p2⟩
   exact k _ p2
end
end Ab
namespace Ab
open PySem L2 PyProof.Rows
theorem cU {K:PySem.W.Frag} {h:Heap} {mg:Str->Option Value} (X:K.In h) (G:h.Ns mainGlobals mg) {x:Str} {st:Stmt} {ps:List Str} {f:Addr} {oc:Value} {od an:Option Addr} {osl:Array (Option Value)} {kV doc pm cdv ct:Value}
  (hb:∀ (kV doc pm:Value) (an:Option Addr) (cdv ct:Value) (us:List Value),us.length=ps.length->bindArgs (PySem.W.fnOf x x (hJ st) (cN st) (aO st) .none kV doc pm an cdv ct) ⟨us,[]⟩=pure (ps.zip us))
  (a:PySem.W.nsIn K mainGlobals x=some (some (.ref f))) (l:K.lookup f=some ⟨oc,od,.func (PySem.W.fnOf x x (hJ st) (cN st) (aO st) .none kV doc pm an cdv ct),osl⟩) (c:PySem.W.codeIn K cdv x=true) (k:PySem.W.keepIn K (.ref f)=true) :
  ∃ f fd,Fn K mg x st ps f fd:=by
 have F:=aBq (st:=st) l c k
 exact ⟨f,_,F,PySem.W.mg_of X G a,k,F.binds hb⟩
theorem aES {K:PySem.W.Frag} {h:Heap} {mg:Str->Option Value} (X:K.In h) (G:h.Ns mainGlobals mg) {x:Str} {st:Stmt} {ps:List Str} {f:Addr} {oc:Value} {od an:Option Addr} {osl:Array (Option Value)} {kV doc pm cdv ct:Value}
  (hb:∀ (kV doc pm:Value) (an:Option Addr) (cdv ct:Value) (us:List Value),us.length=ps.length->bindArgs (PySem.W.fnOf x x (hJ st) (cN st) (aO st) .none kV doc pm an cdv ct) ⟨us,[]⟩=pure (ps.zip us))
  (a:PySem.W.nsIn K mainGlobals x=some (some (.ref f))) (l:K.lookup f=some ⟨oc,od,.func (PySem.W.fnOf x x (hJ st) (cN st) (aO st) .none kV doc pm an cdv ct),osl⟩) (c:PySem.W.codeIn K cdv x=true) (k:PySem.W.keepIn K (.ref f)=true) :
  ∃ f fd,Fn K mg x st ps f fd/\fd.code=cdv:=by
 have F:=aBq (st:=st) l c k
 exact ⟨f,_,⟨F,PySem.W.mg_of X G a,k,F.binds hb⟩,rfl⟩
theorem aFB {K:PySem.W.Frag} {h:Heap} {mg:Str->Option Value} (X:K.In h) (G:h.Ns mainGlobals mg) {t6 t12 t9:Tok}
  (z0:PySem.W.nsIn K mainGlobals "isinstance" = some none)
  (z1:PySem.W.nsIn K mainGlobals "int" = some none)
  (z2:PySem.W.nsIn K mainGlobals "bool" = some none)
  (z3:PySem.W.nsIn K mainGlobals "tuple" = some none)
  (z4:PySem.W.nsIn K mainGlobals "list" = some none)
  (z5:PySem.W.nsIn K mainGlobals "len" = some none)
  (z6:PySem.W.nsIn K mainGlobals "all" = some none)
  (z7:PySem.W.nsIn K mainGlobals "zip" = some none)
  (z8:PySem.W.nsIn K mainGlobals "range" = some none)
  (z9:PySem.W.nsIn K mainGlobals "sorted" = some none)
  (z10:PySem.W.nsIn K mainGlobals "set" = some none)
  (z11:PySem.W.nsIn K mainGlobals "sum" = some none)
  (z12:PySem.W.nsIn K mainGlobals "repr" = some none)
  (z13:PySem.W.nsIn K mainGlobals "enumerate" = some none)
  (z14:PySem.W.nsIn K mainGlobals "min" = some none)
  (z15:PySem.W.nsIn K mainGlobals "any" = some none)
  (z16:PySem.W.nsIn K mainGlobals "ValueError" = some none)
  (zA:PySem.W.nsIn K mainGlobals "MOST_HANDS" = some (some (.int 6 t6))) (zB:PySem.W.nsIn K mainGlobals "MOST_WORKS" = some (some (.int 12 t12))) (zC:PySem.W.nsIn K mainGlobals "MOST_ROOM" = some (some (.int 12 t9))):Bl mg :=
 ⟨PySem.W.mg_none_of X G z0,PySem.W.mg_none_of X G z1,PySem.W.mg_none_of X G z2,PySem.W.mg_none_of X G z3,PySem.W.mg_none_of X G z4,PySem.W.mg_none_of X G z5,PySem.W.mg_none_of X G z6,PySem.W.mg_none_of X G z7,PySem.W.mg_none_of X G z8,PySem.W.mg_none_of X G z9,PySem.W.mg_none_of X G z10,PySem.W.mg_none_of X G z11,PySem.W.mg_none_of X G z12,PySem.W.mg_none_of X G z13,PySem.W.mg_none_of X G z14,PySem.W.mg_none_of X G z15,PySem.W.mg_none_of X G z16,⟨_,PySem.W.mg_of X G zA⟩,⟨_,PySem.W.mg_of X G zB⟩,⟨_,PySem.W.mg_of X G zC⟩⟩
theorem aFC {K:PySem.W.Frag} {h:Heap} {mg:Str->Option Value} (X:K.In h) (G:h.Ns mainGlobals mg) {cE a0 a1 a2 a3 a4 a5 a6 a7 a8 a9 a10:Addr} (zE:PySem.W.nsIn K mainGlobals "DealError" = some (some (.ref cE))) (qE:ecB K cE vbm=true)
  (z0:PySem.W.nsIn K mainGlobals "NoBook" = some (some (.ref a0))) (q0:ecB K a0 (.ref cE::vbm)=true)
  (z1:PySem.W.nsIn K mainGlobals "NoCosts" = some (some (.ref a1))) (q1:ecB K a1 (.ref cE::vbm)=true)
  (z2:PySem.W.nsIn K mainGlobals "NoDeal" = some (some (.ref a2))) (q2:ecB K a2 (.ref cE::vbm)=true)
  (z3:PySem.W.nsIn K mainGlobals "NoHand" = some (some (.ref a3))) (q3:ecB K a3 (.ref cE::vbm)=true)
  (z4:PySem.W.nsIn K mainGlobals "NoRooms" = some (some (.ref a4))) (q4:ecB K a4 (.ref cE::vbm)=true)
  (z5:PySem.W.nsIn K mainGlobals "NoRow" = some (some (.ref a5))) (q5:ecB K a5 (.ref cE::vbm)=true)
  (z6:PySem.W.nsIn K mainGlobals "NoText" = some (some (.ref a6))) (q6:ecB K a6 (.ref cE::vbm)=true)
  (z7:PySem.W.nsIn K mainGlobals "NoWay" = some (some (.ref a7))) (q7:ecB K a7 (.ref cE::vbm)=true)
  (z8:PySem.W.nsIn K mainGlobals "NoWeights" = some (some (.ref a8))) (q8:ecB K a8 (.ref cE::vbm)=true)
  (z9:PySem.W.nsIn K mainGlobals "NoWork" = some (some (.ref a9))) (q9:ecB K a9 (.ref cE::vbm)=true)
  (z10:PySem.W.nsIn K mainGlobals "TooMany" = some (some (.ref a10))) (q10:ecB K a10 (.ref cE::vbm)=true)
  (nd : [cE,a0,a1,a2,a3,a4,a5,a6,a7,a8,a9,a10].Nodup):∃ cE c,Cl K mg cE c:=by
 have hl:∀ i,i < 11->∃ a,[a0,a1,a2,a3,a4,a5,a6,a7,a8,a9,a10][i]?=some a:=fun i hi=>⟨_,Qd (l:=[a0,a1,a2,a3,a4,a5,a6,a7,a8,a9,a10]) (i:=i) hi⟩
 have hc:∀ (i:Nat) (a:Addr),[a0,a1,a2,a3,a4,a5,a6,a7,a8,a9,a10][i]?=some a->(fun i:Nat=>([a0,a1,a2,a3,a4,a5,a6,a7,a8,a9,a10][i]?).getD 0) i=a:=fun i a e=>by show ([a0,a1,a2,a3,a4,a5,a6,a7,a8,a9,a10][i]?).getD 0=a; rw [e]; rfl
 have ndA : [a0,a1,a2,a3,a4,a5,a6,a7,a8,a9,a10].Nodup:=(Xh.mp nd).2
 have neE:cE∉[a0,a1,a2,a3,a4,a5,a6,a7,a8,a9,a10]:=(Xh.mp nd).1
 refine ⟨cE,fun i=>([a0,a1,a2,a3,a4,a5,a6,a7,a8,a9,a10][i]?).getD 0,⟨fun i n e=>?_,fun i hi=>?_,fun i j hi hj e=>?_,fun i hi e=>?_,PySem.W.mg_of X G zE,aBM qE⟩⟩
 ·match i,e with
  | 0,e=>injection e with e; subst e; exact PySem.W.mg_of X G z0
  | 1,e=>injection e with e; subst e; exact PySem.W.mg_of X G z1
  | 2,e=>injection e with e; subst e; exact PySem.W.mg_of X G z2
  | 3,e=>injection e with e; subst e; exact PySem.W.mg_of X G z3
  | 4,e=>injection e with e; subst e; exact PySem.W.mg_of X G z4
  | 5,e=>injection e with e; subst e; exact PySem.W.mg_of X G z5
  | 6,e=>injection e with e; subst e; exact PySem.W.mg_of X G z6
  | 7,e=>injection e with e; subst e; exact PySem.W.mg_of X G z7
  | 8,e=>injection e with e; subst e; exact PySem.W.mg_of X G z8
  | 9,e=>injection e with e; subst e; exact PySem.W.mg_of X G z9
  | 10,e=>injection e with e; subst e; exact PySem.W.mg_of X G z10
  | n+11,e=>exact absurd (Qc.mp e).1 (by show ¬ n+11 < 11; omega)
 ·match i,hi with
  | 0,_=>exact fL qE q0
  | 1,_=>exact fL qE q1
  | 2,_=>exact fL qE q2
  | 3,_=>exact fL qE q3
  | 4,_=>exact fL qE q4
  | 5,_=>exact fL qE q5
  | 6,_=>exact fL qE q6
  | 7,_=>exact fL qE q7
  | 8,_=>exact fL qE q8
  | 9,_=>exact fL qE q9
  | 10,_=>exact fL qE q10
  | n+11,hi=>omega
 ·obtain ⟨a,ea⟩:=hl i hi
  obtain ⟨b,eb⟩:=hl j hj
  have e':a=b:=(hc i a ea).symm.trans (e.trans (hc j b eb))
  subst e'
  have hi':i < [a0,a1,a2,a3,a4,a5,a6,a7,a8,a9,a10].length:=hi
  exact (Ye hi' ndA).mp (ea.trans eb.symm)
 ·obtain ⟨a,ea⟩:=hl i hi
  have e':a=cE:=(hc i a ea).symm.trans e
  subst e'
  exact neE (Qj ea)
theorem aDJ {l:PySem.W.OpenLaw} {w:World} {K:PySem.W.Frag} {mg:Str->Option Value} {fa c Pt:Addr} (hfa:mg "law" = some (.ref fa)) (B:Bl mg) (hCl:∃ cE c,Cl K mg cE c)
  (hCM:∃ f fd,Fn K mg "as_they_come" wL ["book"] f fd/\fd.code=.ref c) (hZ:∀ base:Heap,base.BuiltinsAt mg Pt->Lm K mg base c Pt)
  (hW:∃ f fd,Fn K mg "is_whole" lR ["thing"] f fd)
  (hH:∃ f fd,Fn K mg "are_hands" qA ["thing"] f fd)
  (hKw:∃ f fd,Fn K mg "is_work" qB ["hands", "thing"] f fd)
  (hBP:∃ f fd,Fn K mg "is_book" qC ["thing"] f fd)
  (hNB:∃ f fd,Fn K mg "need_book" yH ["book"] f fd)
  (hWI:∃ f fd,Fn K mg "is_within" kX ["able", "some"] f fd)
  (hHD:∃ f fd,Fn K mg "handing" iN ["book", "deal"] f fd)
  (hRC:∃ f fd,Fn K mg "reached" kG ["rows", "first"] f fd)
  (hWT:∃ f fd,Fn K mg "way_to" qF ["found", "last"] f fd)
  (hAR:∃ f fd,Fn K mg "are_rooms" fP ["book", "thing"] f fd)
  (hNR:∃ f fd,Fn K mg "need_rooms" gU ["book", "rooms"] f fd)
  (hIR:∃ f fd,Fn K mg "in_rooms" wK ["book", "rooms"] f fd)
  (hIJ:∃ f fd,Fn K mg "is_in_rooms" iO ["book", "rooms", "thing"] f fd)
  (hDB:∃ f fd,Fn K mg "do_bar" lT ["book", "rooms", "some", "number"] f fd)
  (hS:∃ f fd,Fn K mg "_law_b_stirred" aAd ["cell", "at"] f fd)
  (hD:∃ f fd,Fn K mg "_law_b_digit" jB ["tape", "many"] f fd)
  (hWK:∃ f fd,Fn K mg "_law_b_work" sL ["tape", "hands", "kind"] f fd)
  (hBK:∃ f fd,Fn K mg "_law_b_book" aAe ["tape", "hands", "works"] f fd)
  (hKI:∃ f fd,Fn K mg "_law_b_kinds" qG ["e"] f fd)
  (hWO:∃ f fd,Fn K mg "_law_b_word" aAf ["e"] f fd)
  (hNO:∃ f fd,Fn K mg "_law_b_no_books" fT [] f fd)
  (hAK:∃ f fd,Fn K mg "_law_b_ask" aDi ["way", "book", "rooms", "rest"] f fd)
  (hRS:∃ f fd,Fn K mg "_law_b_rest" wM ["tape", "book"] f fd)
  (hAS:∃ f fd,Fn K mg "_law_b_asked" uD ["way", "book", "rooms", "rest"] f fd)
  (hNN:∃ f fd,Fn K mg "_law_b_none" wN ["tape", "rooms"] f fd)
  (hFA:∃ f fd,Fn K mg "_law_b_faulty" mL ["tape", "book"] f fd)
  (hLW:∃ f fd,Fn K mg "law" aDj ["script"] f fd)
  : ∃ fd:FuncData,(∀ (s:Shared) (v:Value),BindsTo s fd ⟨[v],[]⟩ [("script",v)])/\∀ base:Heap,K.In base->base.Ns mainGlobals mg->base.BuiltinsAt mg Pt->FnOk l.prog w K mg base CX0 10 fa fd ["script"] (aAu K Pt):=by
 obtain ⟨fCM,dCM,CM,hc⟩:=hCM
 obtain ⟨fW,dW,W⟩:=hW
 obtain ⟨fH,dH,H⟩:=hH
 obtain ⟨fKw,dKw,Kw⟩:=hKw
 obtain ⟨fBP,dBP,BP⟩:=hBP
 obtain ⟨fNB,dNB,NB⟩:=hNB
 obtain ⟨fWI,dWI,WI⟩:=hWI
 obtain ⟨fHD,dHD,HD⟩:=hHD
 obtain ⟨fRC,dRC,RC⟩:=hRC
 obtain ⟨fWT,dWT,WT⟩:=hWT
 obtain ⟨fAR,dAR,AR⟩:=hAR
 obtain ⟨fNR,dNR,NR⟩:=hNR
 obtain ⟨fIR,dIR,IR⟩:=hIR
 obtain ⟨fIJ,dIJ,IJ⟩:=hIJ
 obtain ⟨fDB,dDB,DB⟩:=hDB
 obtain ⟨fS,dS,S⟩:=hS
 obtain ⟨fD,dD,D⟩:=hD
 obtain ⟨fWK,dWK,WK⟩:=hWK
 obtain ⟨fBK,dBK,BK⟩:=hBK
 obtain ⟨fKI,dKI,KI⟩:=hKI
 obtain ⟨fWO,dWO,WO⟩:=hWO
 obtain ⟨fNO,dNO,NO⟩:=hNO
 obtain ⟨fAK,dAK,AK⟩:=hAK
 obtain ⟨fRS,dRS,RS⟩:=hRS
 obtain ⟨fAS,dAS,AS⟩:=hAS
 obtain ⟨fNN,dNN,NN⟩:=hNN
 obtain ⟨fFA,dFA,FA⟩:=hFA
 obtain ⟨fLW,dLW,LW⟩:=hLW
 have e:=hfa.symm.trans LW.mgx
 cases e
 have R:Pr K mg fW fH fKw fBP fNB dW dH dKw dBP dNB:=⟨W,H,Kw,BP,NB⟩
 refine ⟨dLW,fun s v=>?_,fun base _ _ hBu=>?_⟩
 ·obtain ⟨oc,od,kV,doc,pm,an,cdv,ct,osl,rfl,lk,hcd⟩:=LW.fn.ex
  exact .of_eq rfl
 ·have Z:=hZ base hBu
  have OD:FnOk l.prog w K mg base CX0 2 fD dD ["tape", "many"] (iA K):=aCa D B S
  have OW:FnOk l.prog w K mg base CX0 3 fWK dWK ["tape", "hands", "kind"] (yM K):=aDp WK B D OD
  obtain ⟨cE,c',Zc⟩:=hCl
  exact aER LW B BK (aDr BK B D OD WK OW) D OD NO (yY NO) FA (aA9 FA B D OD) NN (aDG NN B D OD) RS (aDI RS B D OD) AS (aCt AS AK WO KI B Zc (aEL AK B R Zc.rf CM hc Z IR IJ DB NR AR HD RC WT WI))
theorem walk {l:PySem.W.OpenLaw} {q:Program} {loose:List Str} {XP:(Str->Option Value)->Heap->Prop} {YP:World->Heap->Prop} {d:DefRec} {K:Params->PySem.W.Frag} {c Pt:Addr} (hn:l.most=some 63) (hdf:d.params.defaults = []) (hq:importsNone q=true)
  (hY:∀ (w:World) (h:Heap),YP w h->(K w.params).In h) (hT:∀ (w:World) (h:Heap),YP w h->h.get? Pt=some (PySem.W.tabObj #[]))
  (F:(∀ w:World,PySem.W.codeHdIn (K w.params) c Pt=true)->∀ (w:World) (mg:Str->Option Value) (fa:Addr) (h:Heap),(K w.params).In h->h.Ns mainGlobals mg->mg d.name=some (.ref fa) ->
   ∃ fd:FuncData,(∀ (s:Shared) (u:Value),BindsTo s fd ⟨[u],[]⟩ [("script",u)])/\∀ base:Heap,(K w.params).In base->base.Ns mainGlobals mg->base.BuiltinsAt mg Pt->FnOk l.prog w (K w.params) mg base CX0 10 fa fd ["script"] (aAu (K w.params) Pt))
  (hKP:∀ w:World,(K w.params).lookup Pt=none) (hC:∀ w:World,PySem.W.codeHdIn (K w.params) c Pt=true) :
  PySem.W.WalkO q loose XP YP l.row.toRowW d [] (fun f vs=>PySem.call f vs) :=
 L2.aBY (n:=63) (k:=10) (x := "script") (CX:=fun _=>CX0) (sp:=fun w=>aAu (K w.params) Pt) (ts:=[(Pt,yU)]) hn (by decide) hdf ⟨rfl,by decide,by decide,rfl⟩ hq hY
  (fun w h Y p hp=>by rw [Qr.mp hp]; exact ⟨hT w h Y,hKP w,c,PySem.W.codeHd_of_K (hY w h Y) (hC w)⟩) (by simp) (fun w mg fa h a b d=>let ⟨fd,h1,h2⟩:=F hC w mg fa h a b d; ⟨fd,h1,fun base k1 k2 k3=>h2 base k1 k2 (k3 _ (Qo ..))⟩)
  (fun _ _ a ns _ hO hS=>⟨a,ns,rfl,hS,hO.2 _ (Qo ..),fun H' h=>⟨rfl,fun p hp=>by rw [Qr.mp hp]; exact h⟩⟩) fun _ _ _ _ _ z=>z
end Ab
open PySem PySem.W PyProof.Rows
set_option maxRecDepth 100000 in
set_option maxHeartbeats 0 in
theorem PySem.Challenge.cw_ablehands_k21_no_rooms_holds : PySem.Challenge.rw_ablehands_k21_no_rooms.Holds := by
 w_on; o_law; k_head; (case hw=>w_witness2)
 k_fill
 refine' Ab.walk (l:=PySem.Challenge.rw_ablehands_k21_no_rooms) rfl rfl (by decide +kernel) (fun w h Y=>PySem.W.km_in_of Y) (fun w h Y=>PySem.W.km_tabs_of Y _ (Qo ..)) ?F ?KP ?HC
 case F =>
  intro hC w mg fa h KX G hmg
  refine' Ab.aDJ hmg ?B ?Cl ?hCM ?Z ?hW ?hH ?hKw ?hBP ?hNB ?hWI ?hHD ?hRC ?hWT ?hAR ?hNR ?hIR ?hIJ ?hDB ?hS ?hD ?hWK ?hBK ?hKI ?hWO ?hNO ?hAK ?hRS ?hAS ?hNN ?hFA ?hLW
  case Z =>
   intro base hb
   exact ⟨hC w,by decide,hb⟩
  case Cl =>
   refine' Ab.aFC KX G ?zE ?qE ?z0 ?q0 ?z1 ?q1 ?z2 ?q2 ?z3 ?q3 ?z4 ?q4 ?z5 ?q5 ?z6 ?q6 ?z7 ?q7 ?z8 ?q8 ?z9 ?q9 ?z10 ?q10 ?nd
   (case zE=>k_is); (case qE=>kernel_rfl)
   (case z0=>k_is); (case q0=>kernel_rfl)
   (case z1=>k_is); (case q1=>kernel_rfl)
   (case z2=>k_is); (case q2=>kernel_rfl)
   (case z3=>k_is); (case q3=>kernel_rfl)
   (case z4=>k_is); (case q4=>kernel_rfl)
   (case z5=>k_is); (case q5=>kernel_rfl)
   (case z6=>k_is); (case q6=>kernel_rfl)
   (case z7=>k_is); (case q7=>kernel_rfl)
   (case z8=>k_is); (case q8=>kernel_rfl)
   (case z9=>k_is); (case q9=>kernel_rfl)
   (case z10=>k_is); (case q10=>kernel_rfl)
   (case nd=>decide)
  case hCM =>
   refine' Ab.aES KX G (fun _ _ _ _ _ _ us hl=>match us,hl with | [_],_=>rfl) ?a ?l ?c ?k
   (case a=>k_is); (case l=>k_is); (case c=>k_is); (case k=>k_is)
  case B =>
   refine' Ab.aFB KX G ?z0 ?z1 ?z2 ?z3 ?z4 ?z5 ?z6 ?z7 ?z8 ?z9 ?z10 ?z11 ?z12 ?z13 ?z14 ?z15 ?z16 ?zA ?zB ?zC
   (case z0=>k_is)
   (case z1=>k_is)
   (case z2=>k_is)
   (case z3=>k_is)
   (case z4=>k_is)
   (case z5=>k_is)
   (case z6=>k_is)
   (case z7=>k_is)
   (case z8=>k_is)
   (case z9=>k_is)
   (case z10=>k_is)
   (case z11=>k_is)
   (case z12=>k_is)
   (case z13=>k_is)
   (case z14=>k_is)
   (case z15=>k_is)
   (case z16=>k_is)
   (case zA=>k_is)
   (case zB=>k_is)
   (case zC=>k_is)
  case hW =>
   refine' Ab.cU KX G (fun _ _ _ _ _ _ us hl=>match us,hl with | [_],_=>rfl) ?a ?l ?c ?k
   (case a=>k_is); (case l=>k_is); (case c=>k_is); (case k=>k_is)
  case hH =>
   refine' Ab.cU KX G (fun _ _ _ _ _ _ us hl=>match us,hl with | [_],_=>rfl) ?a ?l ?c ?k
   (case a=>k_is); (case l=>k_is); (case c=>k_is); (case k=>k_is)
  case hKw =>
   refine' Ab.cU KX G (fun _ _ _ _ _ _ us hl=>match us,hl with | [_,_],_=>rfl) ?a ?l ?c ?k
   (case a=>k_is); (case l=>k_is); (case c=>k_is); (case k=>k_is)
  case hBP =>
   refine' Ab.cU KX G (fun _ _ _ _ _ _ us hl=>match us,hl with | [_],_=>rfl) ?a ?l ?c ?k
   (case a=>k_is); (case l=>k_is); (case c=>k_is); (case k=>k_is)
  case hNB =>
   refine' Ab.cU KX G (fun _ _ _ _ _ _ us hl=>match us,hl with | [_],_=>rfl) ?a ?l ?c ?k
   (case a=>k_is); (case l=>k_is); (case c=>k_is); (case k=>k_is)
  case hWI =>
   refine' Ab.cU KX G (fun _ _ _ _ _ _ us hl=>match us,hl with | [_,_],_=>rfl) ?a ?l ?c ?k
   (case a=>k_is); (case l=>k_is); (case c=>k_is); (case k=>k_is)
  case hHD =>
   refine' Ab.cU KX G (fun _ _ _ _ _ _ us hl=>match us,hl with | [_,_],_=>rfl) ?a ?l ?c ?k
   (case a=>k_is); (case l=>k_is); (case c=>k_is); (case k=>k_is)
  case hRC =>
   refine' Ab.cU KX G (fun _ _ _ _ _ _ us hl=>match us,hl with | [_,_],_=>rfl) ?a ?l ?c ?k
   (case a=>k_is); (case l=>k_is); (case c=>k_is); (case k=>k_is)
  case hWT =>
   refine' Ab.cU KX G (fun _ _ _ _ _ _ us hl=>match us,hl with | [_,_],_=>rfl) ?a ?l ?c ?k
   (case a=>k_is); (case l=>k_is); (case c=>k_is); (case k=>k_is)
  case hAR =>
   refine' Ab.cU KX G (fun _ _ _ _ _ _ us hl=>match us,hl with | [_,_],_=>rfl) ?a ?l ?c ?k
   (case a=>k_is); (case l=>k_is); (case c=>k_is); (case k=>k_is)
  case hNR =>
   refine' Ab.cU KX G (fun _ _ _ _ _ _ us hl=>match us,hl with | [_,_],_=>rfl) ?a ?l ?c ?k
   (case a=>k_is); (case l=>k_is); (case c=>k_is); (case k=>k_is)
  case hIR =>
   refine' Ab.cU KX G (fun _ _ _ _ _ _ us hl=>match us,hl with | [_,_],_=>rfl) ?a ?l ?c ?k
   (case a=>k_is); (case l=>k_is); (case c=>k_is); (case k=>k_is)
  case hIJ =>
   refine' Ab.cU KX G (fun _ _ _ _ _ _ us hl=>match us,hl with | [_,_,_],_=>rfl) ?a ?l ?c ?k
   (case a=>k_is); (case l=>k_is); (case c=>k_is); (case k=>k_is)
  case hDB =>
   refine' Ab.cU KX G (fun _ _ _ _ _ _ us hl=>match us,hl with | [_,_,_,_],_=>rfl) ?a ?l ?c ?k
   (case a=>k_is); (case l=>k_is); (case c=>k_is); (case k=>k_is)
  case hS =>
   refine' Ab.cU KX G (fun _ _ _ _ _ _ us hl=>match us,hl with | [_,_],_=>rfl) ?a ?l ?c ?k
   (case a=>k_is); (case l=>k_is); (case c=>k_is); (case k=>k_is)
  case hD =>
   refine' Ab.cU KX G (fun _ _ _ _ _ _ us hl=>match us,hl with | [_,_],_=>rfl) ?a ?l ?c ?k
   (case a=>k_is); (case l=>k_is); (case c=>k_is); (case k=>k_is)
  case hWK =>
   refine' Ab.cU KX G (fun _ _ _ _ _ _ us hl=>match us,hl with | [_,_,_],_=>rfl) ?a ?l ?c ?k
   (case a=>k_is); (case l=>k_is); (case c=>k_is); (case k=>k_is)
  case hBK =>
   refine' Ab.cU KX G (fun _ _ _ _ _ _ us hl=>match us,hl with | [_,_,_],_=>rfl) ?a ?l ?c ?k
   (case a=>k_is); (case l=>k_is); (case c=>k_is); (case k=>k_is)
  case hKI =>
   refine' Ab.cU KX G (fun _ _ _ _ _ _ us hl=>match us,hl with | [_],_=>rfl) ?a ?l ?c ?k
   (case a=>k_is); (case l=>k_is); (case c=>k_is); (case k=>k_is)
  case hWO =>
   refine' Ab.cU KX G (fun _ _ _ _ _ _ us hl=>match us,hl with | [_],_=>rfl) ?a ?l ?c ?k
   (case a=>k_is); (case l=>k_is); (case c=>k_is); (case k=>k_is)
  case hNO =>
   refine' Ab.cU KX G (fun _ _ _ _ _ _ us hl=>match us,hl with | [],_=>rfl) ?a ?l ?c ?k
   (case a=>k_is); (case l=>k_is); (case c=>k_is); (case k=>k_is)
  case hAK =>
   refine' Ab.cU KX G (fun _ _ _ _ _ _ us hl=>match us,hl with | [_,_,_,_],_=>rfl) ?a ?l ?c ?k
   (case a=>k_is); (case l=>k_is); (case c=>k_is); (case k=>k_is)
  case hRS =>
   refine' Ab.cU KX G (fun _ _ _ _ _ _ us hl=>match us,hl with | [_,_],_=>rfl) ?a ?l ?c ?k
   (case a=>k_is); (case l=>k_is); (case c=>k_is); (case k=>k_is)
  case hAS =>
   refine' Ab.cU KX G (fun _ _ _ _ _ _ us hl=>match us,hl with | [_,_,_,_],_=>rfl) ?a ?l ?c ?k
   (case a=>k_is); (case l=>k_is); (case c=>k_is); (case k=>k_is)
  case hNN =>
   refine' Ab.cU KX G (fun _ _ _ _ _ _ us hl=>match us,hl with | [_,_],_=>rfl) ?a ?l ?c ?k
   (case a=>k_is); (case l=>k_is); (case c=>k_is); (case k=>k_is)
  case hFA =>
   refine' Ab.cU KX G (fun _ _ _ _ _ _ us hl=>match us,hl with | [_,_],_=>rfl) ?a ?l ?c ?k
   (case a=>k_is); (case l=>k_is); (case c=>k_is); (case k=>k_is)
  case hLW =>
   refine' Ab.cU KX G (fun _ _ _ _ _ _ us hl=>match us,hl with | [_],_=>rfl) ?a ?l ?c ?k
   (case a=>k_is); (case l=>k_is); (case c=>k_is); (case k=>k_is)
 case KP=>intro w; first | k_is | kernel_rfl
 case HC=>intro w; kernel_rfl
