import PyProof.Rows.All
import Wide.All
import OpenK.AllK
import Wide.FinOn
import PyProof.EqAt
import PyProof.EqKinds
import PyProof.TupleCall
import PyProof.DictCompW
import PyProof.WalksMore
import PyProof.MinMaxWalk
import PyProof.DictDisplay
import PyProof.DictWalks
import Lean
import PySem.Challenge.RW_ablehands_k16_as_few_left_out_as_can_be
open PySem.Heap renaming get?_push_of_some -> Aa,get?_push_size -> Ag,lt_size -> Ak,get?_update_other -> Aw,size_push -> Bj,get?_update_self -> Bs
open List renaming length_map -> Ac,getElem?_eq_some_iff -> Ad,getElem?_eq_getElem -> Ae,getElem?_map -> Af,mem_of_getElem? -> Ah,size_toArray -> Aj,mem_cons -> Am,mem_singleton -> An,mem_cons_self -> Ao,not_mem_nil -> Ap,length_append -> Aq,mem_cons_of_mem -> Av,length_take -> Ax,map_append -> Ay,map_cons -> Ba,mem_iff_getElem? -> Bb,getD_eq_getElem?_getD -> Bc,mem_map -> Bd,all_eq_true -> Bf,length_cons -> Bg,take_of_length_le -> Bi,getElem?_append_left -> Bk,take_succ -> Bm,length_replicate -> Bn,mem_append -> Bp,mem_range -> Br,pairwise_cons -> Bt,filter_append -> Bu,take_length -> Bv,mem_append_right -> Bw,getElem?_replicate -> Bx,getElem?_zip_eq_some -> By,count_cons -> Ca,getElem?_append_right -> Cc,filter_cons_of_pos -> Cd,filter_cons_of_neg -> Ce,mem_append_left -> Cf,toList_toArray -> Cg,getElem?_eq_none -> Ch,lookup_cons -> Ci,any_eq_true -> Cj,length_drop -> Cn,length_range -> Co,length_set -> Cp,length_eq_zero_iff -> Cq,getElem_mem -> Ct,nodup_cons -> Cu,length_filter_le -> Cw,count_append -> Cz,length_nil -> Da,getElem?_range -> Dc,set_eq_take_append_cons_drop -> Dd,count_le_length -> De,append_nil -> Df,forIn_cons -> Dg,ext_getElem? -> Dh,getElem?_set -> Di,eq_of_mem_replicate -> Dj,filterMap_cons -> Dk,replicate_succ -> Dl,isEmpty_nil -> Do,filterMap_map -> Dq,nil_append -> Dr,find?_cons -> Ds,all_map -> Du,forIn_nil -> Dv,pairwise_iff_getElem -> Dw,map_congr_left -> Dz,length_reverse -> Ea,findIdx?_eq_some_iff_getElem -> Ed,pairwise_singleton -> Ef,flatten_replicate_singleton -> Eg,getElem?_set_self -> Eh,pairwise_lt_range -> Ei,filter_eq_nil_iff -> Ej,flatten_cons -> Ek,append_assoc -> El,take_zero -> Em,take_append_drop -> En,zipIdx_cons -> Eo,getElem?_set_ne -> Ep,any_cons -> Er,mem_filter -> Es,zipIdx_nil -> Eu,length_pos_iff -> Ev,filter_nil -> Ew,map_nil -> Ey,map_map -> Ez,findIdx?_eq_none_iff -> Fb,drop_zero -> Fc,drop_eq_getElem_cons -> Fe,mem_or_eq_of_mem_set -> Ff,getElem?_take_of_lt -> Fh,filterMap_cons_some -> Fj,nodup_append -> Fk,length -> Fl,countP_cons -> Fo,cons_append -> Fp,perm_middle -> Fq,drop_of_length_le -> Fs,getElem_cons_drop -> Ft,of_mem_zip -> Fu,singleton_append -> Fz,filterMap_append -> Ga,range_succ -> Gb,any_map -> Gc,map_set -> Gd,getElem?_of_mem -> Ge,mem_of_mem_take -> Gf,pairwise_append -> Gg,replicate_succ' -> Gh,nodup_nil -> Gk,reverse_append -> Gn,mem_filterMap -> Go,all_cons -> Gp,map_filterMap -> Gq,map_replicate -> Gr,count_pos_iff -> Gs
open Nat renaming le_refl -> Ai,ne_of_lt -> As,le_trans -> At,lt_of_lt_of_le -> Au,zero_le -> Bo,lt_irrefl -> Bq,lt_succ_of_lt -> Bz,ne_of_gt -> Cb,succ_le_succ -> Cs,le_add_right -> Cy,not_lt_zero -> Db,lt_succ_self -> Dx,lt_of_le_of_lt -> Ec,add_le_add_left -> Et,le_of_lt -> Ex,eq_zero_or_pos -> Fa,mul_le_mul -> Fd,lt_trans -> Fy,le_succ -> Gm,mod_lt -> Gu,sub_zero -> Gv,min_self -> Gw,lt_or_ge -> Gx,zero_add -> Gy,mod_one -> Hc
open Bool renaming false_ne_true -> Ar,and_eq_true -> Az,false_eq_true -> Be,true_and -> Ck,eq_iff_iff -> Cm,and_false -> Dp,not_eq_true -> Dy,not_true -> Ee,and_true -> Fm,or_eq_true -> Fv,false_and -> Gi,not_false -> Gj
open Int renaming toNat_natCast -> Bh,emod_lt_of_pos -> Cl,emod_nonneg -> Cr,le_refl -> Dm,toNat_of_nonneg -> Eb,zero_add -> Fw
open Option renaming map_some -> Cv,isSome_iff_exists -> Fg,isSome_map -> Fi,getD_none -> Gz
def PySem.W.Fast.tw13479478096368052664:Nat:=0
def PySem.W.Fast.tw4995674633141399074:Nat:=0
def PySem.W.Fast.tw9635821045296224112:Nat:=0
def PySem.W.Fast.tw8034135567414065671:Nat:=0
def PySem.W.Fast.tw15399576733874546360:Nat:=0
def PySem.W.Fast.tw855698473064751715:Nat:=0
def PySem.W.Fast.tw3625363514469640229:Nat:=0
def PySem.W.Fast.tw7582551941453247108:Nat:=0
def PySem.W.Fast.tw12577522489550435562:Nat:=0
def PySem.W.Fast.tw13132535762290411773:Nat:=0
def PySem.W.Fast.tw807042604016529113:Nat:=0
def PySem.W.Fast.tw145223172171760459:Nat:=0
def PySem.W.Fast.tw17644997315258563790:Nat:=0
def PySem.W.Fast.tw10132546083245394492:Nat:=0
def PySem.W.Fast.tw6455549332192975947:Nat:=0
def PySem.W.Fast.tw10095327593181454294:Nat:=0
def PySem.W.Fast.tw13465704098530101245:Nat:=0
def PySem.W.Fast.tw10871680452845616895:Nat:=0
def PySem.W.Fast.tw5423372981238711490:Nat:=0
def PySem.W.Fast.tw14650431227845935014:Nat:=0
def PySem.W.Fast.tw5990843238407457962:Nat:=0
def PySem.W.Fast.tw14162036636003995340:Nat:=0
def PySem.W.Fast.tw4957501256764813496:Nat:=0
def PySem.W.Fast.tw5099092982229346993:Nat:=0
def PySem.W.Fast.tw2049095224630479406:Nat:=0
def PySem.W.Fast.tw4802375802442642260:Nat:=0
def PySem.W.Fast.tw10509655636647429682:Nat:=0
def PySem.W.Fast.tw15069164564501819999:Nat:=0
def PySem.W.Fast.tw4196103459226039106:Nat:=0
def PySem.W.Fast.tw9427277793036026100:Nat:=0
def PySem.W.Fast.tw6804206761280824072:Nat:=0
def PySem.W.Fast.tw18045150693879206081:Nat:=0
def PySem.W.Fast.tw17514932899268667336:Nat:=0
def PySem.W.Fast.tw12139785744390255622:Nat:=0
def PySem.W.Fast.tw15544262867454038625:Nat:=0
def PySem.W.Fast.tw8050756699807315815:Nat:=0
def PySem.W.Fast.tw10649391205792239456:Nat:=0
def PySem.W.Fast.tw6952906196268097726:Nat:=0
def PySem.W.Fast.tw10774146566566015357:Nat:=0
def PySem.W.Fast.tw5547968059530857616:Nat:=0
def PySem.W.Fast.tw5284528415083774135:Nat:=0
def PySem.W.Fast.tw11930468942042145002:Nat:=0
def PySem.W.Fast.tw12793635352026425197:Nat:=0
def PySem.W.Fast.tw4365432686178232213:Nat:=0
def PySem.W.Fast.tw14504045229744491872:Nat:=0
def PySem.W.Fast.tw13654929906823094090:Nat:=0
def PySem.W.Fast.tw5591815551145341674:Nat:=0
def PySem.W.Fast.tw4758871465699741381:Nat:=0
def PySem.W.Fast.tw896043542195671890:Nat:=0
def PySem.W.Fast.tw5176081236748617737:Nat:=0
def PySem.W.Fast.tw5646605275483155034:Nat:=0
def PySem.W.Fast.tw2059396640731552075:Nat:=0
def PySem.W.Fast.tw5671411928004865450:Nat:=0
def PySem.W.Fast.tw16583504891451485412:Nat:=0
def PySem.W.Fast.tw6429936507791559008:Nat:=0
def PySem.W.Fast.tw8576646461306853009:Nat:=0
def PySem.W.Fast.tw8347266013324124235:Nat:=0
def PySem.W.Fast.tw9872042118070571533:Nat:=0
def PySem.W.Fast.tw14173847643977614568:Nat:=0
def PySem.W.Fast.tw4730515049001949301:Nat:=0
def PySem.W.Fast.tw1340798149717463838:Nat:=0
def PySem.W.Fast.tw321253583109754978:Nat:=0
def PySem.W.Fast.tw14213851253235840634:Nat:=0
def PySem.W.Fast.tw17572174229085912345:Nat:=0
def PySem.W.Fast.tw13037137258944101519:Nat:=0
def PySem.W.Fast.tw7400443083163800651:Nat:=0
def PySem.W.Fast.tw6332755509402993047:Nat:=0
def PySem.W.Fast.tw6623559214741539025:Nat:=0
def PySem.W.Fast.tw18235114475943598294:Nat:=0
def PySem.W.Fast.tw4177457213607302310:Nat:=0
def PySem.W.Fast.tw5844516972369159249:Nat:=0
def PySem.W.Fast.tw5110018262756202012:Nat:=0
def PySem.W.Fast.tw14538405530492318797:Nat:=0
def PySem.W.Fast.tw13807812258740264880:Nat:=0
def PySem.W.Fast.tw396754134605478006:Nat:=0
def PySem.W.Fast.tw3795550853808951537:Nat:=0
def PySem.W.Fast.tw6002744359082302914:Nat:=0
def PySem.W.Fast.tw5701293286442808747:Nat:=0
def PySem.W.Fast.tw10823085029182177513:Nat:=0
def PySem.W.Fast.tw3943514256149800716:Nat:=0
def PySem.W.Fast.tw11255173489295503957:Nat:=0
def PySem.W.Fast.tw4298865219674399346:Nat:=0
def PySem.W.Fast.tw8419490957565144420:Nat:=0
def PySem.W.Fast.tw15597409268358917536:Nat:=0
def PySem.W.Fast.tw2185022277394404887:Nat:=0
def PySem.W.Fast.tw7843582292434389664:Nat:=0
def PySem.W.Fast.tw16930518297037869029:Nat:=0
def PySem.W.Fast.tw12492641428652377107:Nat:=0
def PySem.W.Fast.tw9221203114094379677:Nat:=0
def PySem.W.Fast.tw14606387077752301638:Nat:=0
def PySem.W.Fast.tw16168826875567910990:Nat:=0
def PySem.W.Fast.tw6490121466072749814:Nat:=0
def PySem.W.Fast.tw10893402552187606204:Nat:=0
def PySem.W.Fast.tw7954116441480122877:Nat:=0
def PySem.W.Fast.tw6573791717733860656:Nat:=0
def PySem.W.Fast.tw6336638020953194126:Nat:=0
def PySem.W.Fast.tw3040977294372622988:Nat:=0
def PySem.W.Fast.tw9306358832066260382:Nat:=0
def PySem.W.Fast.tw1143054300296609362:Nat:=0
def PySem.W.Fast.tw11496957447208988564:Nat:=0
def PySem.W.Fast.tw8102125973244774718:Nat:=0
def PySem.W.Fast.tw3795719766110622772:Nat:=0
def PySem.W.Fast.tw11077619000069574247:Nat:=0
def PySem.W.Fast.tw1660351537224037463:Nat:=0
def PySem.W.Fast.tw10776382219984472462:Nat:=0
def PySem.W.Fast.tw5229946072638733755:Nat:=0
def PySem.W.Fast.tw12955484755788799990:Nat:=0
def PySem.W.Fast.tw10809711950668963163:Nat:=0
def PySem.W.Fast.tw13470373555756781163:Nat:=0
def PySem.W.Fast.tw3355473534193452090:Nat:=0
def PySem.W.Fast.tw342769598174733254:Nat:=0
def PySem.W.Fast.tw16595180994622414770:Nat:=0
def PySem.W.Fast.tw2533970681963310031:Nat:=0
def PySem.W.Fast.tw2235991542436651385:Nat:=0
def PySem.W.Fast.tw16210857317123789395:Nat:=0
def PySem.W.Fast.tw13757734203720677665:Nat:=0
def PySem.W.Fast.tw17330472410593417187:Nat:=0
def PySem.W.Fast.tw8277518037768929388:Nat:=0
def PySem.W.Fast.tw11217102638870682693:Nat:=0
def PySem.W.Fast.tw13159857817692302222:Nat:=0
def PySem.W.Fast.tw7165587335287293393:Nat:=0
def PySem.W.Fast.tw4302216985437322513:Nat:=0
def PySem.W.Fast.tw18124478803682856398:Nat:=0
def PySem.W.Fast.tw9308366655837540069:Nat:=0
def PySem.W.Fast.tw7539107047076953967:Nat:=0
def PySem.W.Fast.tw548319191096431466:Nat:=0
def PySem.W.Fast.tw5032076219948768397:Nat:=0
set_option Elab.async false
set_option linter.all false
set_option maxRecDepth 100000
namespace L2
open PySem PySem.Spec PyProof.Rows
abbrev Key:=Sum Int Str
def tF:Key->Value->Bool
 | .inl k,v=>Value.isInt k v
 | .inr x,v=>Value.isStrOf x v
def aFZ (w:World):Key->Int
 | .inl k=>hashInt k
 | .inr x=>hashStr w x
theorem cO:∀ {k:Key} {v:Value},tF k v=true->(∃ i t,k=Sum.inl i/\v=Value.int i t)∨(∃ x t,k=Sum.inr x/\v=Value.str x t)
 | .inl i,v,h=>by
  obtain ⟨t,e⟩:=Value.isInt_shape (k:=i) (v:=v) h
  exact .inl ⟨i,t,rfl,e⟩
 | .inr x,v,h=>by
  obtain ⟨t,e⟩:=Value.isStrOf_shape (x:=x) (v:=v) h
  exact .inr ⟨x,t,rfl,e⟩
theorem aA4 (i:Int) (t:Tok):tF (.inl i) (.int i t)=true:=by simp [tF,Value.isInt]
theorem aA5 (x:Str) (t:Tok):tF (.inr x) (.str x t)=true:=by simp [tF,Value.isStrOf]
theorem aEz (a b:Int):decide ((Sum.inl a:Key)=Sum.inl b)=(a==b):=by
 by_cases e:a=b
 ·subst e; simp
 ·have h:¬ (Sum.inl a:Key)=Sum.inl b:=fun q=>e (Sum.inl.inj q)
  rw [decide_eq_false h]
  exact (beq_eq_false_iff_ne.mpr e).symm
theorem aEA (a b:Str):decide ((Sum.inr a:Key)=Sum.inr b)=decide (a=b):=by
 by_cases e:a=b
 ·subst e; simp
 ·have h:¬ (Sum.inr a:Key)=Sum.inr b:=fun q=>e (Sum.inr.inj q)
  rw [decide_eq_false h,decide_eq_false e]
theorem aEB (a:Int) (b:Str):decide ((Sum.inl a:Key)=Sum.inr b)=false:=decide_eq_false (fun q=>nomatch q)
theorem aEC (a:Str) (b:Int):decide ((Sum.inr a:Key)=Sum.inl b)=false:=decide_eq_false (fun q=>nomatch q)
def cM (prog:Program) (w:World):PySem.KeyKind prog w Key where
 is:=tF
 hash:=aFZ w
 inj:=fun v a b ha hb=>by
  rcases cO ha with ⟨i,t,rfl,rfl⟩ | ⟨x,t,rfl,rfl⟩
  ·rcases cO hb with ⟨j,u,rfl,e⟩ | ⟨y,u,rfl,e⟩
   ·injection e with e1 _; rw [e1]
   ·exact nomatch e
  ·rcases cO hb with ⟨j,u,rfl,e⟩ | ⟨y,u,rfl,e⟩
   ·exact nomatch e
   ·injection e with e1 _; rw [e1]
 byValue:=fun k v h=>by
  rcases cO h with ⟨i,t,rfl,rfl⟩ | ⟨x,t,rfl,rfl⟩ <;> rfl
 pyHash:=fun hv h=>by
  rcases cO hv with ⟨i,t,rfl,rfl⟩ | ⟨x,t,rfl,rfl⟩
  ·exact wpAny_pyHash_int h
  ·exact wpAny_pyHash_str h
 eqBool:=fun hu hv h=>by
  rcases cO hu with ⟨i,t,rfl,rfl⟩ | ⟨x,t,rfl,rfl⟩
  ·rcases cO hv with ⟨j,u,rfl,rfl⟩ | ⟨y,u,rfl,rfl⟩
   ·rw [aEz] at h; exact wpAny_eqBool_int h
   ·rw [aEB] at h; exact SeqAt.EqAt.int_str i t y u _ _ _ _ h
  ·rcases cO hv with ⟨j,u,rfl,rfl⟩ | ⟨y,u,rfl,rfl⟩
   ·rw [aEC] at h; exact SeqAt.EqAt.str_int x t j u _ _ _ _ h
   ·rw [aEA] at h; exact wpAny_eqBool_str h
 «strs»:=fun k x t v h=>by
  rcases cO h with ⟨i,u,rfl,e⟩ | ⟨y,u,rfl,e⟩
  ·exact nomatch e
  ·injection e with e1 _
   subst e1
   cases v <;> rfl
theorem wF (prog:Program) (w:World) (i:Int) (t:Tok):(cM prog w).is (.inl i) (.int i t)=true:=aA4 i t
theorem wG (prog:Program) (w:World) (x:Str) (t:Tok):(cM prog w).is (.inr x) (.str x t)=true:=aA5 x t
inductive V where
 | non | bl (b:Bool) | int (i:Int) | str (x:Str) | byt (b:Array UInt8) | flt (b:UInt64) | ref (a:Addr) | ty (n:String)
 deriving DecidableEq
def bI:V->Value->Prop
 | .non,u=>u=Value.none
 | .bl b,u=>u=Value.bool b
 | .int i,u=>∃ t,u=Value.int i t
 | .str x,u=>∃ t,u=Value.str x t
 | .byt b,u=>∃ t,u=Value.bytes b t
 | .flt b,u=>∃ t,u=Value.float b t
 | .ref a,u=>u=Value.ref a
 | .ty n,u=>u=Value.type n
abbrev bB:List V->List Value->Prop:=Paired bI
theorem bB.length {xs:List V} {us:List Value} (r:bB xs us):xs.length=us.length:=Paired.length r
theorem bB.get:∀ {xs:List V} {us:List Value} {i:Nat} {x:V},bB xs us->xs[i]?=some x->∃ u,us[i]?=some u/\bI x u
 | _,_,_,_,.nil,e=>by simp at e
 | _,_,0,_,.cons r _,e=>by simp at e; subst e; exact ⟨_,rfl,r⟩
 | _,_,i+1,x,.cons _ t,e=>by
  obtain ⟨u,h1,h2⟩:=bB.get (i:=i) (x:=x) t (by simpa using e)
  exact ⟨u,by simpa using h1,h2⟩
theorem bB.set {x:V} {u:Value} (r:bI x u):∀ {xs:List V} {us:List Value} (i:Nat),bB xs us->bB (xs.set i x) (us.set i u)
 | _,_,_,.nil=>.nil
 | _,_,0,.cons _ t=>.cons r t
 | _,_,i+1,.cons q t=>.cons q (bB.set r i t)
theorem bB.append:∀ {xs ys:List V} {us ws:List Value},bB xs us->bB ys ws->bB (xs++ys) (us++ws)
 := by
 intro xs ys us ws h s
 induction h with
 | nil=>exact s
 | cons r t ih=>exact .cons r ih
theorem bB.take:∀ {xs:List V} {us:List Value} (n:Nat),bB xs us->bB (xs.take n) (us.take n)
 | _,_,0,_=>.nil
 | _,_,_+1,.nil=>.nil
 | _,_,n+1,.cons r t=>.cons r (bB.take n t)
theorem bB.drop:∀ {xs:List V} {us:List Value} (n:Nat),bB xs us->bB (xs.drop n) (us.drop n)
 | _,_,0,r=>r
 | _,_,_+1,.nil=>.nil
 | _,_,n+1,.cons _ t=>bB.drop n t
def pK:Option V->Option Value->Prop
 | some v,some u=>bI v u
 | none,none=>True
 | _,_=>False
def KV {κ:Type}:List (κ×V)->List (κ×Value)->Prop:=Paired fun (p:κ×V) (q:κ×Value)=>p.1=q.1/\bI p.2 q.2
def kV:Key->V
 | .inl i=>.int i
 | .inr x=>.str x
inductive HO where
 /-- a list -/
 | lst (xs:List V)
 /-- a tuple (never changes) -/
 | tup (xs:List V)
 /-- a dict whose keys are ints and texts; one whose keys are tuples of ints and texts (the empty one is both) -/
 | dK (kvs:List (Key×V)) | dT (kvs:List (List Key×V))
 /-- a set of ints: its members,its size -/
 | set (S:Int->Bool) (n:Nat)
 /-- an instance of the class at C,its dict at dx,its attributes -/
 | ins (C dx:Addr) (fs:List (Str×V))
 /-- the dict of the instance at x -/
 | own (x:Addr)
 /-- the dict of an exception -/
 | xd (fs:List (Str×V))
 /-- a bound method,f of x -/
 | met (f x:Addr)
 /-- a range object lo,lo+1,.. below hi -/
 | rng (lo hi:Int)
 /-- a thing that is known to the object (the script; a dict while a loop walks it): read,never written while it is so -/
 | frz (o:Obj) (u:HO)
 /-- a code object's table -/
 | tbl (ps:Array Value)
 /-- a code object's table,all of whose codes have the name q; they are tracked as its own -/
 | tab (q:Str)
 /-- any other thing,by what is true of its one object (a def of one's own: aEX a S n:=HO.ext fun h=>..) -/
 | ext (φ:Heap->Prop)
abbrev Hp:=Addr->Option HO
def upd (H:Hp) (a:Addr) (o:HO):Hp:=fun b=>if b=a then some o else H b
theorem aB {H:Hp} {a:Addr} {o:HO}:upd H a o a=some o:=by unfold upd; rw [if_pos rfl]
theorem aJ {H:Hp} {a b:Addr} {o:HO} (h:b≠a):upd H a o b=H b:=by unfold upd; rw [if_neg h]
theorem aDs {H:Hp} {a:Addr} {o u:HO}:upd (upd H a o) a u=upd H a u:=by
 funext b; unfold upd; split <;> rfl
theorem aFk {H:Hp} {a b:Addr} {o u:HO} (h:H a=some o) (h':H b=some u) (d:o≠u):a≠b:=by
 intro e; subst e; rw [h] at h'; exact d (Option.some.inj h')
theorem gE {H:Hp} {a b:Addr} {o:HO} (h:H a=some o) (h':H b=none):a≠b:=by
 intro e; subst e; rw [h] at h'; cases h'
section
variable (P:Program) (w:World)
def bR (H:Hp) (h:Heap) (a:Addr):HO->Prop
 | .lst xs=>xs.length<=sizeLine/\∃ (its:List Value) (n:Nat),bB xs its/\h.get? a=some { cls:=.type "list",data:=.seq its.toArray n }
 | .tup xs=>xs.length<=sizeLine/\∃ (its:List Value) (n:Nat),bB xs its/\h.get? a=some { cls:=.type "tuple",data:=.seq its.toArray n }
 | .dK kvs=>kvs.length<=sizeLine/\(a==sysModules)=false/\∃ vs,KV kvs vs/\h.DictOf (cM P w) a vs
 | .dT kvs => kvs.length <= sizeLine /\ (a == sysModules) = false /\ ∃ xs : List (List Key × Addr × Value),
     Paired (fun (p:List Key×V) (q:List Key×Addr×Value)=>p.1=q.1/\H q.2.1=some (.tup (p.1.map kV))/\bI p.2 q.2.2) kvs xs /\
     ∃ o es ep,h.get? a=some o/\o.ExactDict/\o.data=.dict es ep/\es.toList=xs.map (entryOfKey (tupleKind (cM P w)))/\(xs.map (·.1)).Nodup
 | .set S n=>h.SetOf (intKind P w) a S n
 | .ins C dx fs => H dx = some (.own a) /\ fs.length <= 1000 /\ dx ≠ a /\ h.get? a = some (PySem.W.instObj C dx) /\
     ∃ mA,h.Ns1 dx mA/\(∀ f,pK (fs.lookup f) (mA f))/\PySem.Within mA (fs.map (·.1))
 | .own _=>∃ o,h.get? a=some o
 | .xd fs=>∃ mA,h.Ns1 a mA/\∀ f,pK (fs.lookup f) (mA f)
 | .rng lo hi=>∃ t u v,h.get? a=some { cls:=.type "range",data:=.fields #[.int lo t,.int hi u,.int 1 v] }
 | .frz o u=>h.get? a=some o/\bR H h a u
 | .tbl ps=>h.get? a=some { cls:=.none,data:=.fields ps }
 | .tab q=>∃ ps:Array Value,h.get? a=some { cls:=.none,data:=.fields ps }/\TriplesOk ps.toList/\∀ (pos:Pos) (cv:Value),codeAmong pos ps.toList=some cv->∃ (c:Addr) (o:Obj) (vs:Array Value) (t:Tok),cv=.ref c/\H c=some (.own a)/\h.get? c=some o/\o.data=.fields vs/\vs[1]?=some (.str q t)
 | .met f x=>h.get? a=some (PySem.W.methodObj (.ref f) (.ref x))
 | .ext φ=>φ h/\(∃ o,h.get? a=some o)/\∀ h1 h2:Heap,φ h1->(∀ o,h1.get? a=some o->h2.get? a=some o)->φ h2
def HOk (H:Hp) (h:Heap):Prop:=∀ a o,H a=some o->bR P w H h a o
end
section
variable {P:Program} {w:World} {H H':Hp} {h h':Heap} {a:Addr} {o:HO}
theorem bR.lt (x:bR P w H h a o):a < h.objs.size:=by
 cases o with
 | lst xs=>obtain ⟨_,_,_,_,e⟩:=x; exact Ak e
 | tup xs=>obtain ⟨_,_,_,_,e⟩:=x; exact Ak e
 | dK kvs=>obtain ⟨_,_,_,_,o,_,_,e,_⟩:=x; exact Ak e
 | dT kvs=>obtain ⟨_,_,_,_,o,_,_,e,_⟩:=x; exact Ak e
 | set S n=>obtain ⟨o,_,_,_,e,_⟩:=x; exact Ak e
 | ins C dx fs=>obtain ⟨_,_,_,e,_⟩:=x; exact Ak e
 | own y=>obtain ⟨_,e⟩:=x; exact Ak e
 | xd fs=>obtain ⟨_,⟨_,_,_,e,_⟩,_⟩:=x; exact Ak e
 | rng lo hi=>obtain ⟨_,_,_,e⟩:=x; exact Ak e
 | frz ob u=>obtain ⟨e,_⟩:=x; exact Ak e
 | tbl ps=>exact Ak (show h.get? a=some _ from x)
 | tab q=>obtain ⟨_,e,_⟩:=x; exact Ak e
 | met f y=>exact Ak (show h.get? a=some _ from x)
 | ext φ=>obtain ⟨_,⟨_,e⟩,_⟩:=x; exact Ak e
theorem Paired.mapP {α β:Type} {F G:α->β->Prop}:∀ {l₁:List α} {l₂:List β},Paired F l₁ l₂->(∀ a b,F a b->G a b)->Paired G l₁ l₂
 := by
 intro l₁ l₂ h f
 induction h with
 | nil=>exact .nil
 | cons r t ih=>exact .cons (f _ _ r) ih
theorem bR.stay (x:bR P w H h a o) (k:∀ b u,(b=a∨H b=some (.own a))->h.get? b=some u->h'.get? b=some u)
  (ho:∀ b,H b=some (.own a)->H' b=some (.own a)) (ht:∀ b xs,H b=some (.tup xs)->H' b=some (.tup xs)):bR P w H' h' a o:=by
 induction o with
 | lst xs=>obtain ⟨z,its,n,r,e⟩:=x; exact ⟨z,its,n,r,k _ _ (.inl rfl) e⟩
 | tup xs=>obtain ⟨z,its,n,r,e⟩:=x; exact ⟨z,its,n,r,k _ _ (.inl rfl) e⟩
 | dK kvs=>obtain ⟨z,y,vs,r,ob,es,ep,e,c⟩:=x; exact ⟨z,y,vs,r,ob,es,ep,k _ _ (.inl rfl) e,c⟩
 | dT kvs =>
  obtain ⟨z,y,xs,r,ob,es,ep,e,c⟩:=x
  exact ⟨z,y,xs,Paired.mapP r fun p q z=>⟨z.1,ht _ _ z.2.1,z.2.2⟩,ob,es,ep,k _ _ (.inl rfl) e,c⟩
 | set S n=>obtain ⟨ob,es,ep,t,e,c⟩:=x; exact ⟨ob,es,ep,t,k _ _ (.inl rfl) e,c⟩
 | ins C dx fs =>
  obtain ⟨d,z,ne,e,mA,⟨od,es,ep,e2,c⟩,r⟩:=x
  exact ⟨ho _ d,z,ne,k _ _ (.inl rfl) e,mA,⟨od,es,ep,k _ _ (.inr d) e2,c⟩,r⟩
 | own y=>obtain ⟨ob,e⟩:=x; exact ⟨ob,k _ _ (.inl rfl) e⟩
 | xd fs=>obtain ⟨mA,⟨od,es,ep,e,c⟩,r⟩:=x; exact ⟨mA,⟨od,es,ep,k _ _ (.inl rfl) e,c⟩,r⟩
 | rng lo hi=>obtain ⟨t,u,v,e⟩:=x; exact ⟨t,u,v,k _ _ (.inl rfl) e⟩
 | frz ob u ih=>obtain ⟨e,q⟩:=x; exact ⟨k _ _ (.inl rfl) e,ih q⟩
 | tbl ps =>
  have e:h.get? a=some { cls:=.none,data:=.fields ps }:=x
  show h'.get? a=some { cls:=.none,data:=.fields ps }
  exact k a _ (.inl rfl) e
 | tab q =>
  obtain ⟨ps,e,z,r⟩:=x
  refine ⟨ps,k _ _ (.inl rfl) e,z,fun pos cv q=>?_⟩
  obtain ⟨c,o,vs,t,r1,r2,r3,r4⟩:=r pos cv q
  exact ⟨c,o,vs,t,r1,ho _ r2,k _ _ (.inr r2) r3,r4⟩
 | met f y =>
  have e:h.get? a=some (PySem.W.methodObj (.ref f) (.ref y)):=x
  show h'.get? a=some (PySem.W.methodObj (.ref f) (.ref y))
  exact k a _ (.inl rfl) e
 | ext φ=>obtain ⟨p,⟨o,e⟩,st⟩:=x; exact ⟨st _ _ p fun o q=>k _ _ (.inl rfl) q,⟨o,k _ _ (.inl rfl) e⟩,st⟩
theorem HOk.lt (x:HOk P w H h) (e:H a=some o):a < h.objs.size:=(x a o e).lt
theorem HOk.fresh (x:HOk P w H h) (e:h.objs.size<=a):H a=none:=by
 cases q:H a with
 | none=>rfl
 | some u=>exact absurd (Au (x.lt q) e) (Bq _)
theorem HOk.kept (x:HOk P w H h) (k:∀ b u,h.get? b=some u->h'.get? b=some u):HOk P w H h':=fun a o e =>
 (x a o e).stay (fun b u _ q=>k b u q) (fun _ q=>q) fun _ _ q=>q
theorem HOk.laid (x:HOk P w H h) (k:∀ b u,h.get? b=some u->h'.get? b=some u) (hp:h.objs.size<=a) (new:bR P w (upd H a o) h' a o):HOk P w (upd H a o) h':=fun b u e=>by
 have hn:=x.fresh hp
 by_cases hb:b=a
 ·subst hb; rw [aB] at e; cases e; exact new
 ·rw [aJ hb] at e
  exact (x b u e).stay (fun c v _ q=>k c v q) (fun c q=>by rw [aJ (gE q hn)]; exact q) fun c xs q=>by rw [aJ (gE q hn)]; exact q
end
def Rd (H:Hp) (a:Addr) (u:HO):Prop:=H a=some u∨∃ o,H a=some (.frz o u)
theorem Rd.of {H:Hp} {a:Addr} {u:HO} (h:H a=some u):Rd H a u:=.inl h
theorem Rd.ok {P:Program} {w:World} {H:Hp} {h:Heap} {a:Addr} {u:HO} (r:Rd H a u) (x:HOk P w H h):bR P w H h a u:=by
 rcases r with r | ⟨o,r⟩
 ·exact x a u r
 ·obtain ⟨_,q⟩:=x a _ r
  exact q
def Mut:Option HO->Prop
 | some (.lst _)=>True
 | some (.dK _)=>True
 | some (.dT _)=>True
 | some (.set _ _)=>True
 | some (.ins _ _ _)=>True
 | some (.ext _)=>True
 | some (.tab _)=>True
 | _=>False
section
variable {P:Program} {w:World} {H:Hp} {h h':Heap} {x e:Addr} {o':HO}
theorem HOk.write (ok:HOk P w H h) (mu:Mut (H x)) (he:e=x∨H e=some (.own x)) (k:∀ b u,b≠e->h.get? b=some u->h'.get? b=some u) (heo:∃ u,h'.get? e=some u)
  (new:bR P w (upd H x o') h' x o'):HOk P w (upd H x o') h':=fun b u q=>by
 have nown:∀ c y,H c=some (.own y)->c≠x:=fun c y r z=>by subst z; rw [r] at mu; exact mu
 have ntup:∀ c xs,H c=some (.tup xs)->c≠x:=fun c xs r z=>by subst z; rw [r] at mu; exact mu
 by_cases hb:b=x
 ·subst hb; rw [aB] at q; cases q; exact new
 ·rw [aJ hb] at q
  by_cases hbe:b=e
  ·have q':H b=some (.own x):=by
    rcases he with z | z
    ·exact absurd (hbe.trans z) hb
    ·rw [hbe]; exact z
   rw [q] at q'; cases q'
   obtain ⟨v,hv⟩:=heo
   exact ⟨v,by rw [hbe]; exact hv⟩
  ·refine (ok b u q).stay (fun c v hc r=>k c v ?_ r) (fun c r=>by rw [aJ (nown c b r)]; exact r) fun c xs r=>by rw [aJ (ntup c xs r)]; exact r
   rcases hc with rfl | hc
   ·exact hbe
   ·rintro rfl
    rcases he with z | z
    ·exact nown c b hc z
    ·rw [hc] at z; cases z; exact hb rfl
end
structure Un (fs ex:List Addr) (H H':Hp) (h h':Heap):Prop where
 keep:∀ b o,h.get? b=some o->H b=none->b∉fs->b∉ex->h'.get? b=some o
 slot:∀ b o,h.get? b=some o->H b=none->b∈fs->b∉ex->∃ sl,h'.get? b=some { o with slots:=sl }
 free:∀ b o,h.get? b=some o->H b=none->b∉ex->H' b=none
 there:∀ b o,h.get? b=some o->b∉ex->∃ o',h'.get? b=some o'
 tups:∀ b xs,H b=some (.tup xs)->H' b=some (.tup xs)
 frzs:∀ b o u,H b=some (.frz o u)->H' b=some (.frz o u)
 tbls:∀ b ps,H b=some (.tbl ps)->∃ more,H' b=some (.tbl (ps++more))
section
variable {fs fs' ex ex':List Addr} {H H1 H2:Hp} {h h1 h2 h':Heap} {a x e:Addr} {o:HO}
theorem Un.any (u:Un fs ex H H1 h h1) {b:Addr} {ob:Obj} (q:h.get? b=some ob) (n:H b=none) (hx:b∉ex):∃ sl,h1.get? b=some { ob with slots:=sl }:=by
 by_cases hb:b∈fs
 ·exact u.slot b ob q n hb hx
 ·exact ⟨ob.slots,u.keep b ob q n hb hx⟩
theorem Un.trans (a:Un fs ex H H1 h h1) (b:Un fs ex H1 H2 h1 h2):Un fs ex H H2 h h2 where
 keep:=fun c ob q n hc hx=>b.keep c ob (a.keep c ob q n hc hx) (a.free c ob q n hx) hc hx
 slot:=fun c ob q n hc hx=>by
  obtain ⟨sl,e1⟩:=a.slot c ob q n hc hx
  obtain ⟨sl',e2⟩:=b.slot c _ e1 (a.free c ob q n hx) hc hx
  exact ⟨sl',e2⟩
 free:=fun c ob q n hx=>by
  obtain ⟨o',e1⟩:=a.there c ob q hx
  exact b.free c o' e1 (a.free c ob q n hx) hx
 there:=fun c ob q hx=>by
  obtain ⟨o',e1⟩:=a.there c ob q hx
  exact b.there c o' e1 hx
 tups:=fun c xs q=>b.tups c xs (a.tups c xs q)
 frzs:=fun c ob xs q=>b.frzs c ob xs (a.frzs c ob xs q)
 tbls:=fun c ps q=>by
  obtain ⟨m1,e1⟩:=a.tbls c ps q
  obtain ⟨m2,e2⟩:=b.tbls c _ e1
  exact ⟨m1++m2,by rw [e2,Array.append_assoc]⟩
theorem Un.kept (k:∀ b u,h.get? b=some u->h'.get? b=some u):Un fs ex H H h h' :=
 ⟨fun b ob q _ _ _=>k b ob q,fun b ob q _ _ _=>⟨ob.slots,k b ob q⟩,fun _ _ _ n _=>n,fun b ob q _=>⟨ob,k b ob q⟩,fun _ _ q=>q,fun _ _ _ q=>q,fun _ ps q=>⟨#[],by rw [q]; simp⟩⟩
theorem Un.refl:Un fs ex H H h h:=Un.kept fun _ _ q=>q
theorem Un.laid (k:∀ b u,h.get? b=some u->h'.get? b=some u) (hp:h.objs.size<=a) (hn:H a=none):Un fs ex H (upd H a o) h h' where
 keep:=fun b u q _ _ _=>k b u q
 slot:=fun b u q _ _ _=>⟨u.slots,k b u q⟩
 free:=fun b u q n _=>by rw [aJ (As (Au (Ak q) hp))]; exact n
 there:=fun b u q _=>⟨u,k b u q⟩
 tups:=fun b xs q=>by rw [aJ (gE q hn)]; exact q
 frzs:=fun b u xs q=>by rw [aJ (gE q hn)]; exact q
 tbls:=fun b ps q=>⟨#[],by rw [aJ (gE q hn),q]; simp⟩
theorem Un.write (mu:Mut (H x)) (he:e=x∨H e=some (.own x)) (k:∀ b u,b≠e->h.get? b=some u->h'.get? b=some u) (heo:∃ u,h'.get? e=some u):Un fs ex H (upd H x o) h h':=by
 have hx:∀ b,H b=none->b≠x:=fun b n z=>by subst z; rw [n] at mu; exact mu
 have hb:∀ b,H b=none->b≠e:=fun b n z=>by
  subst z
  rcases he with r | r
  ·exact hx b n r
  ·rw [n] at r; cases r
 have hm:∀ b u,H b=some u->¬ Mut (some u)->b≠x:=fun b u q nm z=>by subst z; rw [q] at mu; exact nm mu
 refine ⟨fun b u q n _ _=>k b u (hb b n) q,fun b u q n _ _=>⟨u.slots,k b u (hb b n) q⟩,fun b u q n _=>by rw [aJ (hx b n)]; exact n,fun b u q _=>?_,
  fun b xs q=>by rw [aJ (hm b _ q fun z=>z)]; exact q,fun b u xs q=>by rw [aJ (hm b _ q fun z=>z)]; exact q,fun b ps q=>⟨#[],by rw [aJ (hm b _ q fun z=>z),q]; simp⟩⟩
 by_cases hbe:b=e
 ·subst hbe; exact heo
 ·exact ⟨u,k b u hbe q⟩
theorem Un.mono (u:Un fs ex H H1 h h1) (hs:∀ b∈fs,b∈fs') (hx:∀ b∈ex,b∈ex'):Un fs' ex' H H1 h h1 :=
 ⟨fun b ob q n hb he=>u.keep b ob q n (fun z=>hb (hs b z)) fun z=>he (hx b z),fun _ _ q n _ he=>u.any q n fun z=>he (hx _ z),fun b ob q n he=>u.free b ob q n fun z=>he (hx b z),fun b ob q he=>u.there b ob q fun z=>he (hx b z),u.tups,u.frzs,u.tbls⟩
end
def trk (h:Heap) (H:Hp):List Addr:=(List.range h.objs.size).filter fun a=>(H a).isSome
def sL (h:Heap) (H:Hp):Heap:=PySem.W.hideAll h (trk h H)
theorem aA6 (h:Heap) (H:Hp):(sL h H).objs.size=h.objs.size:=PySem.W.hideAll_size _ _
theorem aBU {h:Heap} {H:Hp} {b:Addr} {o:Obj} (e:h.get? b=some o) (n:H b=none):(sL h H).get? b=some o :=
 PySem.W.hideAll_get _ e fun hm=>by
  have q:(H b).isSome=true:=(Es.mp hm).2
  rw [n] at q; simp at q
theorem aDt {h:Heap} {H:Hp} {b:Addr} {o:Obj} (e:(sL h H).get? b=some o):h.get? b=some o/\H b=none:=by
 have e':h.get? b=some o:=PySem.W.of_hideAll (trk h H) e
 refine ⟨e',?_⟩
 cases q:H b with
 | none=>rfl
 | some x =>
  have hm:b∈trk h H:=Es.mpr ⟨Br.mpr (Ak e'),by simp [q]⟩
  have z:(sL h H).get? b=none:=PySem.W.hideAll_none (trk h H) hm
  rw [z] at e; cases e
def aDu (g h:Heap) (L:Addr):List (Addr×Obj):=(List.range h.objs.size).filterMap fun a=>if a=L∨(g.get? a).isSome=true then none else (h.get? a).map fun o=>(a,o)
def mH (g h:Heap) (L d:Addr):List (Addr×Obj):=(aDu g h L).filter fun p=>decide (p.1≠d)
structure Mod (K:PySem.W.Frag) (mg:Str->Option Value) (base:Heap):Prop where
 kin:K.In base
 glob:base.Ns mainGlobals mg
 blt:∃ mb,base.Ns builtinsNs mb/\∀ x:Str,x ≠ "__name__" -> mb x=bootBuiltins x
 nolimit:base.NoLimit
 mods:∃ mm,base.Ns sysModules mm
structure Cx where
 prog:Program
 w:World
 K:PySem.W.Frag
 mg:Str->Option Value
 base:Heap
 A:Around
 N:List Str
 s₀:Shared
 H₀:Hp
 env:Env
 outer:List Env
 stack:List Env
 ex:List Addr
 fn:Str->Bool
 calm:Bool
 pn:List (Addr×Obj)
 xe:Value->Shared->Prop
def frs (l:List Env):List Addr:=l.filterMap (·.frame)
abbrev Cx.fs (X:Cx):List Addr:=frs X.outer
def Vis (sc:Scope) (x:Str):Prop:=sc.names.lookup x=some .local∨sc.names.lookup x=some .cell∨sc.names.lookup x=some .free
def Loc (sc:Scope) (x:Str):Prop:=sc.names.lookup x=some .local∨sc.names.lookup x=some .cell
def aFl (env:Env) (h:Heap) (m:Str->Option Value) (x:Str) (u:Value):Prop :=
 (env.kindOf x=some .local/\m x=some u)∨((env.kindOf x=some .cell∨env.kindOf x=some .free)/\∃ c,env.cells.lookup x=some c/\h.IsCell c (some u))
structure Cx.Ok (X:Cx):Prop where
 mod:Mod X.K X.mg X.base
 kind:X.env.scope.kind=.function
 glob:X.env.globals=mainGlobals
 blt:X.env.builtins=builtinsNs
 above:X.s₀.heap.objs.size<=X.env.locals
 inj:∀ x y c,X.env.cells.lookup x=some c->X.env.cells.lookup y=some c->x=y
 has:∀ x,(X.env.kindOf x=some .cell∨X.env.kindOf x=some .free)->∃ c,X.env.cells.lookup x=some c
 cab:∀ x c,X.fn x=true->X.env.cells.lookup x=some c->X.s₀.heap.objs.size<=c
 hd:X.calm=true->X.A.handled=none
 frames:X.A.frames=some X.stack
 stk:X.stack=X.outer∨(X.stack=X.env::X.outer/\X.env.frame=some X.env.locals)
 exf:∀ b∈X.ex,b≠X.env.locals/\∀ x c,X.env.cells.lookup x=some c->c≠b
 bs:∀ b o,X.base.get? b=some o->X.s₀.heap.get? b=some o/\X.H₀ b=none
 bsz:X.base.objs.size<=X.s₀.heap.objs.size
 noex:∀ b o,X.base.get? b=some o->b∉X.ex
 exfs:∀ b∈X.ex,b∉X.fs
 funs:X.s₀.heap.FunFrames X.base X.outer
 frf:∀ b∈X.fs,X.H₀ b=none
structure Inv (X:Cx) (pins:List (Addr×Obj)) (σ:List (Option V)) (H:Hp) (s:Shared):Prop where
 ok:X.Ok
 os:s.os=X.s₀.os
 bare:AllBare s.gens
 base:Un X.fs X.ex X.H₀ H X.s₀.heap s.heap
 loc:∃ m,s.heap.Ns X.env.locals m/\∀ (i:Nat) (x:Str) (v:V),X.N[i]?=some x->σ[i]?=some (some v)->Vis X.env.scope x->∃ u,bI v u/\aFl X.env s.heap m x u
 cell:∀ x c,X.env.cells.lookup x=some c->∃ v,s.heap.IsCell c v
 free:H X.env.locals=none
 freeC:∀ x c,X.env.cells.lookup x=some c->H c=none
 pin:∀ p∈X.pn++pins,s.heap.get? p.1=some p.2/\H p.1=none/\p.1≠X.env.locals/\p.1∉X.fs/\∀ v,p.2.data≠.cell v
 hok:HOk X.prog X.w H s.heap
 len:σ.length=X.N.length
section
variable {X:Cx} {pins:List (Addr×Obj)} {σ:List (Option V)} {H H':Hp} {s:Shared} {h':Heap}
theorem Cx.Ok.nofr (ok:X.Ok) {b:Addr} {o:Obj} (e:X.base.get? b=some o):b∉X.fs:=fun hb=>by
 have:=(ok.funs.mem hb).1
 rw [e] at this; cases this
theorem Inv.bs (I:Inv X pins σ H s):∀ b o,X.base.get? b=some o->s.heap.get? b=some o/\H b=none:=fun b o e =>
 ⟨I.base.keep b o (I.ok.bs b o e).1 (I.ok.bs b o e).2 (I.ok.nofr e) (I.ok.noex b o e),I.base.free b o (I.ok.bs b o e).1 (I.ok.bs b o e).2 (I.ok.noex b o e)⟩
theorem Inv.bk (I:Inv X pins σ H s):∀ b o,X.base.get? b=some o->s.heap.get? b=some o:=fun b o e=>(I.bs b o e).1
theorem Inv.mod (I:Inv X pins σ H s):Mod X.K X.mg X.base:=I.ok.mod
theorem Inv.kIn (I:Inv X pins σ H s):X.K.In s.heap:=I.ok.mod.kin.keeps I.bk
theorem Inv.nolimit (I:Inv X pins σ H s):s.heap.NoLimit:=I.ok.mod.nolimit.keeps I.bk
theorem Inv.fr (I:Inv X pins σ H s):∃ m,Fr X.base X.env.locals s.heap m :=
 let ⟨m,hn,_⟩:=I.loc
 ⟨m,hn,I.bk,At I.ok.bsz I.ok.above⟩
theorem Inv.lt (I:Inv X pins σ H s):X.env.locals < s.heap.objs.size:=let ⟨_,hn,_⟩:=I.loc; hn.lt
theorem Inv.sz (I:Inv X pins σ H s):X.s₀.heap.objs.size<=s.heap.objs.size:=At I.ok.above (Ex I.lt)
theorem Inv.nofs (I:Inv X pins σ H s) {a:Addr} (h:s.heap.objs.size<=a):a∉X.fs:=fun hb=>by
 obtain ⟨_,o,ho,_⟩:=I.ok.funs.mem hb
 exact absurd (Au (Ak ho) (At I.sz h)) (Bq _)
theorem Inv.cne (I:Inv X pins σ H s):∀ x c,X.env.cells.lookup x=some c->c≠X.env.locals:=fun x c e z=>by
 obtain ⟨v,o,ho,hd⟩:=I.cell x c e
 obtain ⟨m,⟨o',es,ep,ho',hd',_⟩,_⟩:=I.loc
 rw [z,ho'] at ho; cases ho; rw [hd'] at hd; cases hd
theorem Inv.funs (I:Inv X pins σ H s):s.heap.FunFrames X.base X.outer:=by
 have all:∀ (l:List Env),(∀ b∈frs l,b∈X.fs)->X.s₀.heap.FunFrames X.base l->s.heap.FunFrames X.base l:=by
  intro l
  induction l with
  | nil=>intro _ _; trivial
  | cons env r ih =>
   intro hs hl
   obtain ⟨hk,⟨L,o,hf,hn,ho,hd⟩,hr⟩:=hl
   have hL:L∈X.fs:=hs L (by unfold frs; rw [Dk,hf]; exact Ao)
   obtain ⟨sl,e⟩:=I.base.slot L o ho (I.ok.frf L hL) hL fun z=>I.ok.exfs L z hL
   exact ⟨hk,⟨L,_,hf,hn,e,hd⟩,ih (fun b hb=>hs b (by unfold frs; rw [Dk,hf]; exact Av _ hb)) hr⟩
 exact all X.outer (fun _ hb=>hb) I.ok.funs
theorem Inv.stack (I:Inv X pins σ H s):s.heap.FunFrames X.base X.stack:=by
 rcases I.ok.stk with e | ⟨e,hf⟩
 ·rw [e]; exact I.funs
 ·rw [e]
  obtain ⟨m,hn,_⟩:=I.loc
  refine .cons (by rw [I.ok.kind]; decide) hf hn ?_ I.funs
  exact Heap.get?_none_of_le (At I.ok.bsz I.ok.above)
theorem Inv.stkSub (I:Inv X pins σ H s):∀ b∈frs X.stack,b∈X.env.locals::X.fs:=fun b hb=>by
 rcases I.ok.stk with e | ⟨e,hf⟩
 ·rw [e] at hb; exact Av _ hb
 ·rw [e] at hb
  unfold frs at hb
  rw [Dk,hf] at hb
  exact hb
theorem Inv.stkFree (I:Inv X pins σ H s):∀ b∈frs X.stack,H b=none:=fun b hb=>by
 rcases Am.mp (I.stkSub b hb) with e | hb
 ·rw [e]; exact I.free
 ·obtain ⟨_,o,ho,_⟩:=I.ok.funs.mem hb
  exact I.base.free b o ho (I.ok.frf b hb) fun z=>I.ok.exfs b z hb
theorem Inv.step {g':Array GenState} {t':Nat} {d':Drawn} {ch:List Addr} (I:Inv X pins σ H s)
  (hch:∀ b∈ch,(b∈X.ex∨X.s₀.heap.objs.size<=b)/\b≠X.env.locals/\(∀ x c,X.env.cells.lookup x=some c->c≠b)/\∀ p∈X.pn++pins,p.1≠b)
  (keep:∀ b o,b≠X.env.locals->b∉X.fs->b∉ch->s.heap.get? b=some o->H b=none->h'.get? b=some o)
  (slot:∀ b o,b≠X.env.locals->b∈X.fs->b∉ch->s.heap.get? b=some o->H b=none->∃ sl,h'.get? b=some { o with slots:=sl }) (free:∀ b o,b∉ch->s.heap.get? b=some o->H b=none->H' b=none)
  (there:∀ b o,b∉ch->s.heap.get? b=some o->∃ o',h'.get? b=some o')
  (tups:∀ b xs,H b=some (.tup xs)->H' b=some (.tup xs)) (frzs:∀ b o u,H b=some (.frz o u)->H' b=some (.frz o u)) (tbls:∀ b ps,H b=some (.tbl ps)->∃ more,H' b=some (.tbl (ps++more)))
  (ns:∀ m,s.heap.Ns X.env.locals m->h'.Ns X.env.locals m) (hok:HOk X.prog X.w H' h') (hg:AllBare g') :
  Inv X pins σ H' { s with heap:=h',gens:=g',drawn:=d',toks:=t' }:=by
 have neL:∀ b o,X.s₀.heap.get? b=some o->b≠X.env.locals:=fun b o e=>As (Au (Ak e) I.ok.above)
 have neC:∀ b o,X.s₀.heap.get? b=some o->b∉X.ex->b∉ch:=fun b o e hx hb=>by
  rcases (hch b hb).1 with z | z
  ·exact hx z
  ·exact absurd (Au (Ak e) z) (Bq _)
 have cellK:∀ x c,X.env.cells.lookup x=some c->∀ v,s.heap.IsCell c v->h'.IsCell c v:=fun x c e v ⟨o,ho,hd⟩=>by
  have nch:c∉ch:=fun z=>(hch c z).2.2.1 x c e rfl
  by_cases hc:c∈X.fs
  ·obtain ⟨sl,q⟩:=slot c o (I.cne x c e) hc nch ho (I.freeC x c e)
   exact ⟨_,q,hd⟩
  ·exact ⟨o,keep c o (I.cne x c e) hc nch ho (I.freeC x c e),hd⟩
 refine ⟨I.ok,I.os,hg,⟨fun b o e n hb hx=>?_,fun b o e n hb hx=>?_,fun b o e n hx=>?_,fun b o e hx=>?_,fun b xs e=>tups b xs (I.base.tups b xs e),fun b o xs e=>frzs b o xs (I.base.frzs b o xs e),fun b ps e=>?_⟩,?_,fun x c e=>?_,?_,fun x c e=>?_,fun p hp=>?_,hok,I.len⟩
 ·exact keep b o (neL b o e) hb (neC b o e hx) (I.base.keep b o e n hb hx) (I.base.free b o e n hx)
 ·obtain ⟨sl,e1⟩:=I.base.slot b o e n hb hx
  obtain ⟨sl',e2⟩:=slot b _ (neL b o e) hb (neC b o e hx) e1 (I.base.free b o e n hx)
  exact ⟨sl',e2⟩
 ·obtain ⟨o',e1⟩:=I.base.there b o e hx
  exact free b o' (neC b o e hx) e1 (I.base.free b o e n hx)
 ·obtain ⟨o',e1⟩:=I.base.there b o e hx
  exact there b o' (neC b o e hx) e1
 ·obtain ⟨m1,e1⟩:=I.base.tbls b ps e
  obtain ⟨m2,e2⟩:=tbls b _ e1
  exact ⟨m1++m2,by rw [e2,Array.append_assoc]⟩
 ·obtain ⟨m,hn,hl⟩:=I.loc
  refine ⟨m,ns m hn,fun i x v e1 e2 e3=>?_⟩
  obtain ⟨u,r,l⟩:=hl i x v e1 e2 e3
  refine ⟨u,r,?_⟩
  rcases l with l | ⟨k,c,e,z⟩
  ·exact .inl l
  ·exact .inr ⟨k,c,e,cellK x c e _ z⟩
 ·obtain ⟨v,z⟩:=I.cell x c e
  exact ⟨v,cellK x c e v z⟩
 ·obtain ⟨m,⟨o,_,_,ho,_⟩,_⟩:=I.loc
  exact free _ o (fun z=>(hch _ z).2.1 rfl) ho I.free
 ·obtain ⟨v,o,ho,hd⟩:=I.cell x c e
  exact free c o (fun z=>(hch c z).2.2.1 x c e rfl) ho (I.freeC x c e)
 ·obtain ⟨e,n,ne,nf,d⟩:=I.pin p hp
  have nch:p.1∉ch:=fun z=>(hch p.1 z).2.2.2 p hp rfl
  exact ⟨keep p.1 p.2 ne nf nch e n,free p.1 p.2 nch e n,ne,nf,d⟩
theorem Inv.un {t':Nat} (I:Inv X pins σ H s) (u:Un X.fs [] H H' s.heap h') (hok:HOk X.prog X.w H' h'):Inv X pins σ H' { s with heap:=h',toks:=t' }:=by
 obtain ⟨m,⟨o,es,ep,ho,r⟩,_⟩:=id I.loc
 obtain ⟨sl,hL⟩:=u.any ho I.free (by simp)
 exact I.step (g':=s.gens) (d':=s.drawn) (ch:=[]) (fun _ z=>nomatch z) (fun b o _ hb _ e n=>u.keep b o e n hb (by simp)) (fun b o _ hb _ e n=>u.slot b o e n hb (by simp)) (fun b o _ e n=>u.free b o e n (by simp)) (fun b o _ e=>u.there b o e (by simp)) u.tups u.frzs u.tbls (fun m' hm=>by
  obtain ⟨o',es',ep',ho',r'⟩:=hm
  rw [ho] at ho'; cases ho'
  exact ⟨_,es',ep',hL,r'⟩) hok I.bare
theorem Inv.call {g':Array GenState} {t':Nat} {d':Drawn} {ch:List Addr} (I:Inv X pins σ H s) (u:Un (frs X.stack) ch H H' s.heap h') (hok:HOk X.prog X.w H' h') (hg:AllBare g')
  (hch:∀ b∈ch,(b∈X.ex∨X.s₀.heap.objs.size<=b)/\b≠X.env.locals/\(∀ x c,X.env.cells.lookup x=some c->c≠b)/\∀ p∈X.pn++pins,p.1≠b) :
  Inv X pins σ H' { s with heap:=h',gens:=g',drawn:=d',toks:=t' }:=by
 obtain ⟨m,⟨o,es,ep,ho,r⟩,_⟩:=id I.loc
 obtain ⟨sl,hL⟩:=u.any ho I.free fun z=>(hch _ z).2.1 rfl
 exact I.step (ch:=ch) hch (fun b o hL hb hc e n=>u.keep b o e n (fun z=>(Am.mp (I.stkSub b z)).elim hL hb) hc) (fun b o _ _ hc e n=>u.any e n hc) (fun b o hc e n=>u.free b o e n hc) (fun b o hc e=>u.there b o e hc) u.tups u.frzs u.tbls (fun m' hm=>by
  obtain ⟨o',es',ep',ho',r'⟩:=hm
  rw [ho] at ho'; cases ho'
  exact ⟨_,es',ep',hL,r'⟩) hok hg
theorem Inv.turned {t':Nat} {it:Addr} (I:Inv X pins σ H s) (k:∀ b o,b≠it->s.heap.get? b=some o->h'.get? b=some o) (hn:H it=none) (hL:it≠X.env.locals)
  (h1:it∈X.ex∨X.s₀.heap.objs.size<=it) (h2:∀ x c,X.env.cells.lookup x=some c->c≠it) (h3:∀ p∈X.pn++pins,p.1≠it):Inv X pins σ H { s with heap:=h',toks:=t' }:=by
 have nit:∀ b u,H b=some u->b≠it:=fun b u e z=>by rw [z,hn] at e; cases e
 refine I.step (g':=s.gens) (d':=s.drawn) (ch:=[it]) (fun b hb=>?_) (fun b o _ _ hc e _=>k b o (fun z=>hc (by simp [z])) e) (fun b o _ _ hc e _=>⟨o.slots,k b o (fun z=>hc (by simp [z])) e⟩) (fun _ _ _ _ n=>n)
  (fun b o hc e=>⟨o,k b o (fun z=>hc (by simp [z])) e⟩) (fun _ _ e=>e) (fun _ _ _ e=>e) (fun b ps e=>⟨#[],by rw [e]; simp⟩) (fun m hm=>?_) (fun b u e=>?_) I.bare
 ·have e:b=it:=by simpa using hb
  subst e
  exact ⟨h1,hL,h2,h3⟩
 ·obtain ⟨o,es,ep,ho,r⟩:=hm
  exact ⟨o,es,ep,k _ o (Ne.symm hL) ho,r⟩
 ·refine (I.hok b u e).stay (fun c v hc q=>k c v ?_ q) (fun _ q=>q) fun _ _ q=>q
  rcases hc with z | z
  ·rw [z]; exact nit b u e
  ·exact nit c _ z
theorem Inv.tok (I:Inv X pins σ H s) (t:Nat):Inv X pins σ H { s with toks:=t }:=I.un (h':=s.heap) (t':=t) Un.refl I.hok
theorem Inv.kept {t':Nat} (I:Inv X pins σ H s) (k:∀ b u,s.heap.get? b=some u->h'.get? b=some u):Inv X pins σ H { s with heap:=h',toks:=t' }:=I.un (Un.kept k) (I.hok.kept k)
theorem Inv.laid {a:Addr} {o:HO} {t':Nat} (I:Inv X pins σ H s) (k:∀ b u,s.heap.get? b=some u->h'.get? b=some u) (hp:s.heap.objs.size<=a) (new:bR X.prog X.w (upd H a o) h' a o) :
  Inv X pins σ (upd H a o) { s with heap:=h',toks:=t' }:=I.un (Un.laid k hp (I.hok.fresh hp)) (I.hok.laid k hp new)
theorem Inv.write {x e:Addr} {o:HO} {t':Nat} (I:Inv X pins σ H s) (mu:Mut (H x)) (he:e=x∨H e=some (.own x)) (k:∀ b u,b≠e->s.heap.get? b=some u->h'.get? b=some u) (heo:∃ u,h'.get? e=some u)
  (new:bR X.prog X.w (upd H x o) h' x o):Inv X pins σ (upd H x o) { s with heap:=h',toks:=t' }:=I.un (Un.write mu he k heo) (I.hok.write mu he k heo new)
theorem Inv.pins_of {pins':List (Addr×Obj)} (I:Inv X pins σ H s) (h:∀ p∈pins',s.heap.get? p.1=some p.2/\H p.1=none/\p.1≠X.env.locals/\p.1∉X.fs/\∀ v,p.2.data≠.cell v):Inv X pins' σ H s :=
 ⟨I.ok,I.os,I.bare,I.base,I.loc,I.cell,I.free,I.freeC,fun p hp=>(Bp.mp hp).elim (fun z=>I.pin p (Cf _ z)) (h p),I.hok,I.len⟩
theorem wH {N:List Str} (hN:N.Nodup) {i j:Nat} {x:Str} (a:N[i]?=some x) (b:N[j]?=some x):i=j:=by
 obtain ⟨h1,e1⟩:=Ad.mp a
 obtain ⟨h2,e2⟩:=Ad.mp b
 exact (List.getElem_inj hN).mp (e1.trans e2.symm)
theorem tG {M:Model} {A:Around} {E:Value->Shared->Prop} {i:Nat} {x:Str} {v:V} {u:Value} {Q:Unit->Shared->Prop} (I:Inv X pins σ H s) (hN:X.N.Nodup) (hi:X.N[i]?=some x) (hx:Loc X.env.scope x) (r:bI v u)
  (h:∀ s',Inv X pins (σ.set i (some v)) H s'->(∃ a,Heap.SameBut a s.heap s'.heap/\(a=X.env.locals∨X.env.cells.lookup x=some a))->Q () s') (hf:X.fn x=true∨X.env.scope.names.lookup x=some .local:=by first | exact .inl rfl | exact .inr rfl | assumption):wpAny M A (storeName X.env x u) Q E s:=by
 obtain ⟨m,hn,hl⟩:=id I.loc
 have hcls:(X.env.scope.kind==.class || (X.env.scope.kind==.module && X.env.locals !=X.env.globals))=false:=by rw [I.ok.kind]; rfl
 have hiσ:i < σ.length:=by rw [I.len]; exact (Ad.mp hi).1
 have cne:=I.cne
 have tracked:∀ {a:Addr} {h':Heap},(∃ o,s.heap.get? a=some o/\H a=none)->Heap.SameBut a s.heap h'->HOk X.prog X.w H h':=fun {a h'} ha hs b ob e=>by
  obtain ⟨_,_,hfree⟩:=ha
  refine (I.hok b ob e).stay (fun c w' hc q=>(hs.2 c ?_).trans q) (fun _ q=>q) fun _ _ q=>q
  rintro rfl
  rcases hc with rfl | hc
  ·rw [hfree] at e; cases e
  ·rw [hfree] at hc; cases hc
 rcases hx with hk | hk
 ·refine wpAny_storeName_local hk hn (fun h' hn' hs=>?_) hcls
  obtain ⟨oL,_,_,hoL,_⟩:=id hn
  refine h _ ⟨I.ok,I.os,I.bare,⟨fun b o e n hb hx=>?_,fun b o e n hb hx=>?_,I.base.free,fun b o e hx=>?_,I.base.tups,I.base.frzs,I.base.tbls⟩,⟨_,hn',fun j y v' e1 e2 e3=>?_⟩,fun y c e=>?_,I.free,I.freeC,fun p hp=>?_,tracked ⟨oL,hoL,I.free⟩ hs,by simpa using I.len⟩ ⟨_,hs,.inl rfl⟩
  ·exact (hs.2 b (As (Au (Ak e) I.ok.above))).trans (I.base.keep b o e n hb hx)
  ·obtain ⟨sl,e1⟩:=I.base.slot b o e n hb hx
   exact ⟨sl,(hs.2 b (As (Au (Ak e) I.ok.above))).trans e1⟩
  ·obtain ⟨o',e1⟩:=I.base.there b o e hx
   exact ⟨o',(hs.2 b (As (Au (Ak e) I.ok.above))).trans e1⟩
  ·by_cases hj:j=i
   ·subst hj
    rw [hi] at e1; cases e1
    rw [Eh hiσ] at e2
    cases e2
    exact ⟨u,r,.inl ⟨hk,by simp⟩⟩
   ·rw [Ep (Ne.symm hj)] at e2
    obtain ⟨u',r',q⟩:=hl j y v' e1 e2 e3
    refine ⟨u',r',?_⟩
    rcases q with ⟨k,e⟩ | ⟨k,c,e,z⟩
    ·refine .inl ⟨k,?_⟩
     have:y≠x:=fun e=>hj (wH hN e1 (e ▸ hi))
     simp [this,e]
    ·exact .inr ⟨k,c,e,z.sameBut hs (cne y c e)⟩
  ·obtain ⟨w',z⟩:=I.cell y c e
   exact ⟨w',z.sameBut hs (cne y c e)⟩
  ·obtain ⟨e,n,ne,nf,d⟩:=I.pin p hp
   exact ⟨(hs.2 p.1 ne).trans e,n,ne,nf,d⟩
 ·have hfn:X.fn x=true:=by
   rcases hf with z | z
   ·exact z
   ·rw [z] at hk; cases hk
  obtain ⟨c,hc⟩:=I.ok.has x (.inl hk)
  obtain ⟨w',z⟩:=I.cell x c hc
  refine wpAny_storeName_cell I.ok.kind hk hc z (fun h' hc' hs=>?_)
  obtain ⟨oc,hoc,hocd⟩:=id z
  refine h { s with heap:=h' } ⟨I.ok,I.os,I.bare,⟨fun b o e n hb hx=>?_,fun b o e n hb hx=>?_,I.base.free,fun b o e hx=>?_,I.base.tups,I.base.frzs,I.base.tbls⟩,⟨m,hn.sameBut hs (Ne.symm (cne x c hc)),fun j y v' e1 e2 e3=>?_⟩,fun y c' e=>?_,I.free,I.freeC,fun p hp=>?_,tracked ⟨oc,hoc,I.freeC x c hc⟩ hs,by simpa using I.len⟩ ⟨c,hs,.inr hc⟩
  ·exact (hs.2 b (As (Au (Ak e) (I.ok.cab x c hfn hc)))).trans (I.base.keep b o e n hb hx)
  ·obtain ⟨sl,e1⟩:=I.base.slot b o e n hb hx
   exact ⟨sl,(hs.2 b (As (Au (Ak e) (I.ok.cab x c hfn hc)))).trans e1⟩
  ·obtain ⟨o',e1⟩:=I.base.there b o e hx
   exact ⟨o',(hs.2 b (As (Au (Ak e) (I.ok.cab x c hfn hc)))).trans e1⟩
  ·by_cases hj:j=i
   ·subst hj
    rw [hi] at e1; cases e1
    rw [Eh hiσ] at e2
    cases e2
    exact ⟨u,r,.inr ⟨.inl hk,c,hc,hc'⟩⟩
   ·rw [Ep (Ne.symm hj)] at e2
    obtain ⟨u',r',q⟩:=hl j y v' e1 e2 e3
    refine ⟨u',r',?_⟩
    rcases q with q | ⟨k,c',e,z'⟩
    ·exact .inl q
    ·refine .inr ⟨k,c',e,z'.sameBut hs ?_⟩
     rintro rfl
     exact hj (wH hN e1 (I.ok.inj _ _ _ e hc ▸ hi))
  ·by_cases hcc:c'=c
   ·subst hcc; exact ⟨_,hc'⟩
   ·obtain ⟨w2,z2⟩:=I.cell y c' e
    exact ⟨w2,z2.sameBut hs hcc⟩
  ·obtain ⟨e,n,ne,nf,d⟩:=I.pin p hp
   refine ⟨(hs.2 p.1 ?_).trans e,n,ne,nf,d⟩
   intro q
   rw [q,hoc] at e
   have q':oc=p.2:=Option.some.inj e
   exact d w' (by rw [<- q']; exact hocd)
theorem wI {M:Model} {A:Around} {E:Value->Shared->Prop} {i:Nat} {x:Str} {v:V} {u:Value} {Q:Unit->Shared->Prop} (I:Inv X pins σ H s) (hN:X.N.Nodup) (hi:X.N[i]?=some x) (hx:Loc X.env.scope x) (r:bI v u)
  (h:∀ s',Inv X pins (σ.set i (some v)) H s'->Q () s') (hf:X.fn x=true∨X.env.scope.names.lookup x=some .local:=by first | exact .inl rfl | exact .inr rfl | assumption):wpAny M A (storeName X.env x u) Q E s :=
 tG I hN hi hx r (fun s' I' _=>h s' I') hf
theorem Inv.call' {s':Shared} {ch:List Addr} (I:Inv X pins σ H s) (ho:s'.os=s.os) (u:Un (frs X.stack) ch H H' s.heap s'.heap) (hok:HOk X.prog X.w H' s'.heap) (hg:AllBare s'.gens)
  (hch:∀ b∈ch,(b∈X.ex∨X.s₀.heap.objs.size<=b)/\b≠X.env.locals/\(∀ x c,X.env.cells.lookup x=some c->c≠b)/\∀ p∈X.pn++pins,p.1≠b):Inv X pins σ H' s':=by
 obtain ⟨h',g',d',t',o'⟩:=s'
 have e:o'=s.os:=ho
 subst e
 exact I.call (g':=g') (t':=t') (d':=d') u hok hg hch
end
abbrev XK:=Value->Option Addr->Hp->Prop
abbrev St:=List (Option V)
abbrev VK:=V->Hp->Prop
abbrev TE:=St->Hp->VK->Prop
abbrev TT:=St->Hp->(Bool->Hp->Prop)->Prop
abbrev TA:=St->Hp->(List V->Hp->Prop)->Prop
structure Ends where
 nx:St->Hp->Prop
 rt:VK
 bk:St->Hp->Prop:=fun _ _=>False
 ct:St->Hp->Prop:=fun _ _=>False
abbrev TS:=Ends->St->Hp->Prop
def EP (X:Cx) (pins:List (Addr×Obj)) (σ:St) (Q:VK) (u:Value) (s':Shared):Prop:=∃ v H',Inv X pins σ H' s'/\bI v u/\Q v H'
def TP (X:Cx) (pins:List (Addr×Obj)) (σ:St) (Q:Bool->Hp->Prop) (b:Bool) (s':Shared):Prop:=∃ H',Inv X pins σ H' s'/\Q b H'
def AP (X:Cx) (pins:List (Addr×Obj)) (σ:St) (Q:List V->Hp->Prop) (us:List Value) (s':Shared):Prop:=∃ vs H',Inv X pins σ H' s'/\bB vs us/\Q vs H'
def SP (X:Cx) (pins:List (Addr×Obj)) (D:Ends) (f:Flow) (s':Shared):Prop :=
 match f with
 | .next=>∃ σ' H',Inv X pins σ' H' s'/\D.nx σ' H'
 | .brk=>∃ σ' H',Inv X pins σ' H' s'/\D.bk σ' H'
 | .cont=>∃ σ' H',Inv X pins σ' H' s'/\D.ct σ' H'
 | .ret u=>∃ v σ' H',Inv X pins σ' H' s'/\bI v u/\D.rt v H'
def PE (X:Cx) (e:Expr) (t:TE):Prop :=
 ∀ (pins:List (Addr×Obj)) (s:Shared) (σ:St) (H:Hp) (Q:VK),Inv X pins σ H s->t σ H Q->wpAny (model X.prog X.w) X.A (eval e X.env) (EP X pins σ Q) X.xe s
def PT (X:Cx) (e:Expr) (t:TT):Prop :=
 ∀ (pins:List (Addr×Obj)) (s:Shared) (σ:St) (H:Hp) (Q:Bool->Hp->Prop),Inv X pins σ H s->t σ H Q->wpAny (model X.prog X.w) X.A (isTrue e X.env (eval e X.env)) (TP X pins σ Q) X.xe s
def PW (X:Cx) (e:Expr) (t:TT):Prop :=
 ∀ (whole:Sem Value) (pins:List (Addr×Obj)) (s:Shared) (σ:St) (H:Hp) (Q:Bool->Hp->Prop),Inv X pins σ H s->t σ H Q->wpAny (model X.prog X.w) X.A (isTrue e X.env whole) (TP X pins σ Q) X.xe s
theorem PW.pt {X:Cx} {e:Expr} {t:TT} (h:PW X e t):PT X e t:=h _
def PA (X:Cx) (es:List Expr) (t:TA):Prop :=
 ∀ (pos:Pos) (pins:List (Addr×Obj)) (s:Shared) (σ:St) (H:Hp) (Q:List V->Hp->Prop),Inv X pins σ H s->t σ H Q->wpAny (model X.prog X.w) X.A (spliced (backTo pos (starEach es X.env))) (AP X pins σ Q) X.xe s
def PS (X:Cx) (st:Stmt) (t:TS):Prop :=
 ∀ (pins:List (Addr×Obj)) (s:Shared) (σ:St) (H:Hp) (D:Ends),Inv X pins σ H s->t D σ H->wpAny (model X.prog X.w) X.A (exec st X.env) (SP X pins D) X.xe s
def PSs (X:Cx) (st:List Stmt) (t:TS):Prop :=
 ∀ (pins:List (Addr×Obj)) (s:Shared) (σ:St) (H:Hp) (D:Ends),Inv X pins σ H s->t D σ H->wpAny (model X.prog X.w) X.A (execs st X.env) (SP X pins D) X.xe s
theorem thn {α:Type} {t:Sem α} {Q Q':α->Shared->Prop} {M:Model} {A:Around} {E:Value->Shared->Prop} {s:Shared} (h:wpAny M A t Q E s) (hQ:∀ a s,Q a s->Q' a s):wpAny M A t Q' E s:=wpAny_mono h hQ fun _ _ x=>x
section
variable {X:Cx}
def aFm (i:Nat):TE:=fun σ H Q=>∃ v,σ[i]?=some (some v)/\Q v H
abbrev tC (v:V):TE:=fun _ H Q=>Q v H
theorem aED {i:Nat} {x:Str} {pos:Pos} (hN:X.N[i]?=some x) (hv:Vis X.env.scope x) (hd:(x==("__debug__" : Str))=false:=by decide) (hcd:(x==("__classdict__" : Str))=false:=by decide):PE X (.Name x pos) (aFm i):=by
 intro pins s σ H Q I h
 obtain ⟨v,e,h⟩:=h
 obtain ⟨m,hn,hl⟩:=I.loc
 obtain ⟨u,r,l⟩:=hl i x v hN e hv
 have fin:EP X pins σ Q u s:=⟨v,H,I,r,h⟩
 rcases l with ⟨hk,hm⟩ | ⟨hk,c,hc,hcell⟩
 ·exact wpAny_Name (wpAny_loadName_local I.ok.kind hk hn hm fin) hd
 ·rcases hk with hk | hk
  ·exact wpAny_Name (wpAny_loadName_cell I.ok.kind hk hc hcell fin) hd
  ·exact wpAny_Name (wpAny_loadName_free I.ok.kind hk hc hcell fin hcd) hd
theorem aG {i j pos}:PE X (.Constant (.int i) j pos) (tC (.int i)):=fun _ _ _ H _ I h=>wpAny_Constant_int ⟨.int i,H,I.tok _,⟨_,rfl⟩,h⟩
theorem dM {b j pos}:PE X (.Constant (.bool b) j pos) (tC (.bl b)):=fun _ _ _ H _ I h=>Constant_bool ⟨.bl b,H,I,rfl,h⟩
theorem eF {j pos}:PE X (.Constant .none j pos) (tC .non):=fun _ _ _ H _ I h=>Constant_none ⟨.non,H,I,rfl,h⟩
theorem yM {x j pos}:PE X (.Constant (.str x) j pos) (tC (.str x)):=fun _ _ _ H _ I h=>Calls.Constant_str ⟨.str x,H,I.tok _,⟨_,rfl⟩,h⟩
def Gl (X:Cx) (x:Str):Prop:=X.env.kindOf x=some .globalImplicit
theorem aAn {E:Value->Shared->Prop} {pins:List (Addr×Obj)} {s:Shared} {σ:St} {H:Hp} {x:Str} {u:Value} {pos:Pos} {Q:Value->Shared->Prop} (I:Inv X pins σ H s) (hg:Gl X x) (hm:X.mg x=some u) (h:Q u s)
  (hd:(x==("__debug__" : Str))=false:=by decide):wpAny (model X.prog X.w) X.A (eval (.Name x pos) X.env) Q E s :=
 Calls.Name_function_global I.ok.kind hg (Calls.loadGlobal_global (by rw [I.ok.glob]; exact I.mod.glob.keeps I.bk) hm h) hd
theorem iU {E:Value->Shared->Prop} {pins:List (Addr×Obj)} {s:Shared} {σ:St} {H:Hp} {x:Str} {u:Value} {pos:Pos} {Q:Value->Shared->Prop} (I:Inv X pins σ H s) (hg:Gl X x) (hm:X.mg x=none) (hv:bootBuiltins x=some u) (h:Q u s)
  (hn:x ≠ "__name__" := by decide) (hd:(x==("__debug__" : Str))=false:=by decide):wpAny (model X.prog X.w) X.A (eval (.Name x pos) X.env) Q E s:=by
 obtain ⟨mb,h1,h2⟩:=I.mod.blt
 exact Calls.Name_function_global I.ok.kind hg (Calls.loadGlobal_builtin (by rw [I.ok.glob]; exact I.mod.glob.keeps I.bk) hm (by rw [I.ok.blt]; exact h1.keeps I.bk) ((h2 x hn).trans hv) h) hd
theorem uR {x:Str} {v:V} {u:Value} {pos:Pos} (hg:Gl X x) (hm:X.mg x=some u) (r:bI v u) (hd:(x==("__debug__" : Str))=false:=by decide):PE X (.Name x pos) (tC v) :=
 fun _ _ _ H _ I h=>aAn I hg hm ⟨v,H,I,r,h⟩ hd
theorem dY {x:Str} {v:V} {u:Value} {pos:Pos} (hg:Gl X x) (hm:X.mg x=none) (hv:bootBuiltins x=some u) (r:bI v u) (hn:x ≠ "__name__" := by decide) (hd:(x==("__debug__" : Str))=false:=by decide):PE X (.Name x pos) (tC v) :=
 fun _ _ _ H _ I h=>iU I hg hm hv ⟨v,H,I,r,h⟩ hn hd
variable {a b:Expr} {ta tb:TE} {pos:Pos}
def PC (X:Cx) (op:CmpOp) (a b:Expr) (t:TE):Prop :=
 ∀ (pins:List (Addr×Obj)) (s:Shared) (σ:St) (H:Hp) (Q:VK),Inv X pins σ H s->t σ H Q ->
  wpAny (model X.prog X.w) X.A (eval a X.env) (fun v s₁=>wpAny (model X.prog X.w) X.A (eval b X.env) (fun u s₂=>wpAny (model X.prog X.w) X.A (compareOp op v u) (EP X pins σ Q) X.xe s₂) X.xe s₁) X.xe s
theorem aBV (b:Expr) {op:CmpOp} (h:op≠.In) (h2:op≠.NotIn):behindInMarks op b=false:=by
 have e1:(op==CmpOp.In)=false:=by cases op <;> first | rfl | exact absurd rfl h
 have e2:(op==CmpOp.NotIn)=false:=by cases op <;> first | rfl | exact absurd rfl h2
 cases b <;> simp [behindInMarks,e1,e2]
def aFn (ta:TE):TE:=fun σ H Q=>ta σ H fun x H1=>Q (.bl (!decide (x=.non))) H1
theorem bI.none_iff {x:V} {v:Value} (r:bI x v):(v==Value.none)=decide (x=.non):=by
 cases x with
 | non=>cases r; rfl
 | bl _=>cases r; rfl
 | int _=>obtain ⟨t,rfl⟩:=r; rfl
 | str _=>obtain ⟨t,rfl⟩:=r; rfl
 | byt _=>obtain ⟨t,rfl⟩:=r; rfl
 | flt _=>obtain ⟨t,rfl⟩:=r; rfl
 | ref _=>cases r; rfl
 | ty _=>cases r; rfl
theorem aDv {j pos'} (ha:PE X a ta):PC X .IsNot a (.Constant .none j pos') (aFn ta):=by
 intro pins s σ H Q I h
 refine thn (ha pins s σ H _ I h) fun v s1 hx9=>?_
 obtain ⟨x,H1,I1,r1,q1⟩:=hx9
 exact Constant_none (isnot_none_gen ⟨.bl _,H1,I1,by rw [r1.none_iff]; rfl,q1⟩)
def tB (t:TE):TT:=fun σ H Q=>t σ H fun x H1=>∃ c,x=.bl c/\Q c H1
theorem yN {op:CmpOp} {t:TE} (h:PC X op a b t) (h1:behindInMarks op b=false:=by first | exact aBV _ (by decide) (by decide) | rfl):PT X (.Compare a [op] [b] pos) (tB t):=by
 intro pins s σ H Q I hw
 refine wpAny_isTrue_Compare1 (thn (h pins s σ H _ I hw) fun v s1 h1=>thn h1 fun u s2 h2=>thn h2 fun c s3 hx9=>?_) h1
 obtain ⟨x,H1,I1,r1,q1⟩:=hx9
 obtain ⟨d,rfl,q⟩:=q1
 cases r1
 exact wpAny_truthy_bool ⟨H1,I1,q⟩
theorem bW {e:Expr} {t:TE} (h:PE X e t) (he:∀ whole,isTrue e X.env whole=(do let v<-whole; standAt e.pos; holding [v] (truthy v)):=by intro _; rfl):PT X e (tB t):=by
 intro pins s σ H Q I hw
 refine isTrue_plain (thn (h pins s σ H _ I hw) fun v s1 hx9=>?_) (he _)
 obtain ⟨x,H1,I1,r1,q1⟩:=hx9
 obtain ⟨d,rfl,q⟩:=q1
 cases r1
 exact wpAny_truthy_bool ⟨H1,I1,q⟩
variable {tA tB':TT} {mH:List Expr}
def aDw (t u:TT):TT:=fun σ H Q=>t σ H fun c H1=>if c=true then u σ H1 Q else Q false H1
def tOr (t u:TT):TT:=fun σ H Q=>t σ H fun c H1=>if c=true then Q true H1 else u σ H1 Q
def aF0 (t:TT):TT:=fun σ H Q=>t σ H fun c H1=>Q (!c) H1
theorem iN (ha:PT X a tA):PW X (.BoolOp .And [a] pos) tA:=by
 intro wh pins s σ H Q I h
 refine isTrue_and (thn (ha pins s σ H Q I h) fun c s1 e=>?_)
 cases c with
 | true=>exact isTrue_and_nil e
 | false=>exact e
theorem dP (ha:PT X a tA):PW X (.BoolOp .Or [a] pos) tA:=by
 intro wh pins s σ H Q I h
 refine isTrue_or (thn (ha pins s σ H Q I h) fun c s1 e=>?_)
 cases c with
 | false=>exact isTrue_or_nil e
 | true=>exact e
theorem jL (ha:PT X a tA) (hb:PW X (.BoolOp .And (b::mH) pos) tB'):PW X (.BoolOp .And (a::b::mH) pos) (aDw tA tB'):=by
 intro wh pins s σ H Q I h
 refine isTrue_and (thn (ha pins s σ H _ I h) fun c s1 hx9=>?_)
 obtain ⟨H1,I1,q1⟩:=hx9
 cases c with
 | true=>exact hb wh pins s1 σ H1 Q I1 q1
 | false=>exact ⟨H1,I1,q1⟩
theorem eM (ha:PT X a tA) (hb:PW X (.BoolOp .Or (b::mH) pos) tB'):PW X (.BoolOp .Or (a::b::mH) pos) (tOr tA tB'):=by
 intro wh pins s σ H Q I h
 refine isTrue_or (thn (ha pins s σ H _ I h) fun c s1 hx9=>?_)
 obtain ⟨H1,I1,q1⟩:=hx9
 cases c with
 | true=>exact ⟨H1,I1,q1⟩
 | false=>exact hb wh pins s1 σ H1 Q I1 q1
theorem bZ (ha:PT X a tA):PT X (.UnaryOp .Not a pos) (aF0 tA):=by
 intro pins s σ H Q I h
 exact isTrue_not (ha pins s σ H (fun c H1=>Q (!c) H1) I h)
def aFo (ta tb:TE):TE:=fun σ H Q=>ta σ H fun x H1=>∃ c,x=.bl c/\if c=true then tb σ H1 Q else Q (.bl false) H1
def aF1 (ta tb:TE):TE:=fun σ H Q=>ta σ H fun x H1=>∃ c,x=.bl c/\if c=true then Q (.bl true) H1 else tb σ H1 Q
def aFp (ta:TE):TE:=fun σ H Q=>ta σ H fun x H1=>∃ c,x=.bl c/\Q (.bl (!c)) H1
theorem kB {op} {t:TE} (h:PE X a t):PE X (.BoolOp op [a] pos) t:=fun pins s σ H Q I hw=>BoolOp_one (h pins s σ H Q I hw)
theorem kC (ha:PE X a ta) (hb:PE X (.BoolOp .And (b::mH) pos) tb):PE X (.BoolOp .And (a::b::mH) pos) (aFo ta tb):=by
 intro pins s σ H Q I h
 refine BoolOp_and (thn (ha pins s σ H _ I h) fun v s1 hx9=>?_)
 obtain ⟨x,H1,I1,r1,q1⟩:=hx9
 obtain ⟨c,rfl,q1⟩:=q1
 cases r1
 refine wpAny_truthy_bool ?_
 cases c with
 | true=>exact hb pins s1 σ H1 Q I1 q1
 | false=>exact ⟨.bl false,H1,I1,rfl,q1⟩
theorem aFq (ha:PE X a ta) (hb:PE X (.BoolOp .Or (b::mH) pos) tb):PE X (.BoolOp .Or (a::b::mH) pos) (aF1 ta tb):=by
 intro pins s σ H Q I h
 refine BoolOp_or (thn (ha pins s σ H _ I h) fun v s1 hx9=>?_)
 obtain ⟨x,H1,I1,r1,q1⟩:=hx9
 obtain ⟨c,rfl,q1⟩:=q1
 cases r1
 refine wpAny_truthy_bool ?_
 cases c with
 | false=>exact hb pins s1 σ H1 Q I1 q1
 | true=>exact ⟨.bl true,H1,I1,rfl,q1⟩
theorem aBW (ha:PE X a ta):PE X (.UnaryOp .Not a pos) (aFp ta):=by
 intro pins s σ H Q I h
 refine UnaryOp_ (thn (ha pins s σ H _ I h) fun v s1 hx9=>?_)
 obtain ⟨x,H1,I1,r1,q1⟩:=hx9
 obtain ⟨c,rfl,q1⟩:=q1
 cases r1
 exact not_of (wpAny_truthy_bool ⟨.bl (!c),H1,I1,rfl,q1⟩)
def tIf (t:TT) (ta tb:TE):TE:=fun σ H Q=>t σ H fun c H1=>if c=true then ta σ H1 Q else tb σ H1 Q
theorem aBX {c:Expr} (hc:PT X c tA) (ha:PE X a ta) (hb:PE X b tb):PE X (.IfExp c a b pos) (tIf tA ta tb):=by
 intro pins s σ H Q I h
 refine wpAny_IfExp (thn (hc pins s σ H _ I h) fun d s1 hx9=>?_)
 obtain ⟨H1,I1,q1⟩:=hx9
 cases d with
 | true=>exact ha pins s1 σ H1 Q I1 q1
 | false=>exact hb pins s1 σ H1 Q I1 q1
end
def SqL (K:PySem.W.Frag) (H:Hp) (a:Addr) (xs:List V):Prop :=
 Rd H a (.lst xs) ∨
  ∃ (o:Obj) (its:Array Value) (n:Nat),K.lookup a=some o/\o.cls=.type "list" /\ o.dict=none/\o.data=.seq its n/\its.size<=sizeLine/\bB xs its.toList
def SqT (K:PySem.W.Frag) (H:Hp) (a:Addr) (xs:List V):Prop :=
 Rd H a (.tup xs) ∨
  ∃ (o:Obj) (its:Array Value) (n:Nat),K.lookup a=some o/\o.cls=.type "tuple" /\ o.dict=none/\o.data=.seq its n/\its.size<=sizeLine/\bB xs its.toList
def aF2:Value->Option V
 | .none=>some .non
 | .bool b=>some (.bl b)
 | .int i _=>some (.int i)
 | .str x _=>some (.str x)
 | .bytes b _=>some (.byt b)
 | .float b _=>some (.flt b)
 | .ref a=>some (.ref a)
 | .type n=>some (.ty n)
 | _=>none
theorem bI.abs {x:V} {u:Value} (r:bI x u):aF2 u=some x:=by
 cases x with
 | non=>cases r; rfl
 | bl _=>cases r; rfl
 | int _=>obtain ⟨t,rfl⟩:=r; rfl
 | str _=>obtain ⟨t,rfl⟩:=r; rfl
 | byt _=>obtain ⟨t,rfl⟩:=r; rfl
 | flt _=>obtain ⟨t,rfl⟩:=r; rfl
 | ref _=>cases r; rfl
 | ty _=>cases r; rfl
theorem bI.inj {x y:V} {u:Value} (r:bI x u) (q:bI y u):x=y:=Option.some.inj (r.abs.symm.trans q.abs)
theorem bB.inj:∀ {xs ys:List V} {us:List Value},bB xs us->bB ys us->xs=ys
 := by
 intro xs ys us h
 induction h generalizing ys with
 | nil=>intro q; cases q; rfl
 | cons r t ih=>intro q; cases q with | cons r' t'=>rw [r.inj r',ih t']
section
variable {X:Cx} {pins:List (Addr×Obj)} {σ:St} {H:Hp} {s:Shared} {a:Addr} {xs ys:List V}
theorem SqL.of {K:PySem.W.Frag} (h:H a=some (.lst xs)):SqL K H a xs:=.inl (.inl h)
theorem SqT.of {K:PySem.W.Frag} (h:H a=some (.tup xs)):SqT K H a xs:=.inl (.inl h)
theorem Inv.list (I:Inv X pins σ H s) (h:SqL X.K H a xs):∃ its:List Value,bB xs its/\PlainL s.heap a its.toArray/\xs.length<=sizeLine:=by
 rcases h with h | ⟨o,its,n,hk,hc,hd,hs,hz,r⟩
 ·obtain ⟨z,its,n,r,e⟩:=h.ok I.hok
  exact ⟨its,r,⟨_,n,e,rfl,rfl,rfl⟩,z⟩
 ·refine ⟨its.toList,r,⟨o,n,I.kIn a o hk,hc,hd,by simpa using hs⟩,?_⟩
  have e:=r.length
  simp only [Array.length_toList] at e
  omega
theorem Inv.tuple (I:Inv X pins σ H s) (h:SqT X.K H a xs):∃ its:List Value,bB xs its/\IsTup s.heap a its.toArray/\xs.length<=sizeLine:=by
 rcases h with h | ⟨o,its,n,hk,hc,_,hs,hz,r⟩
 ·obtain ⟨z,its,n,r,p⟩:=h.ok I.hok
  exact ⟨its,r,⟨_,p,rfl,n,rfl⟩,z⟩
 ·refine ⟨its.toList,r,⟨o,I.kIn a o hk,hc,n,by simpa using hs⟩,?_⟩
  have e:=r.length
  simp only [Array.length_toList] at e
  omega
theorem Inv.list_inj (I:Inv X pins σ H s) (h:SqL X.K H a xs) (h':SqL X.K H a ys):xs=ys:=by
 obtain ⟨its,r,⟨o,n,e,_,_,d⟩,_⟩:=I.list h
 obtain ⟨its',r',⟨o',n',e',_,_,d'⟩,_⟩:=I.list h'
 rw [e] at e'; cases e'
 rw [d] at d'
 injection d' with d1 _
 have:its=its':=by simpa using congrArg Array.toList d1
 subst this
 exact r.inj r'
theorem Inv.tuple_inj (I:Inv X pins σ H s) (h:SqT X.K H a xs) (h':SqT X.K H a ys):xs=ys:=by
 obtain ⟨its,r,⟨o,e,_,n,d⟩,_⟩:=I.tuple h
 obtain ⟨its',r',⟨o',e',_,n',d'⟩,_⟩:=I.tuple h'
 rw [e] at e'; cases e'
 rw [d] at d'
 injection d' with d1 _
 have:its=its':=by simpa using congrArg Array.toList d1
 subst this
 exact r.inj r'
end
abbrev Cx.wish (X:Cx) (E:Value->Shared->Prop):Cx:={ X with xe:=E }
abbrev Cx.nox (X:Cx):Cx:=X.wish fun _ _=>False
theorem Cx.Ok.wish {X:Cx} (ok:X.Ok) (E:Value->Shared->Prop):(X.wish E).Ok :=
 ⟨ok.mod,ok.kind,ok.glob,ok.blt,ok.above,ok.inj,ok.has,ok.cab,ok.hd,ok.frames,ok.stk,ok.exf,ok.bs,ok.bsz,ok.noex,ok.exfs,ok.funs,ok.frf⟩
theorem Cx.Ok.unwish {X:Cx} {E:Value->Shared->Prop} (ok:(X.wish E).Ok):X.Ok :=
 ⟨ok.mod,ok.kind,ok.glob,ok.blt,ok.above,ok.inj,ok.has,ok.cab,ok.hd,ok.frames,ok.stk,ok.exf,ok.bs,ok.bsz,ok.noex,ok.exfs,ok.funs,ok.frf⟩
section
variable {X:Cx} {pins:List (Addr×Obj)} {σ:St} {H:Hp} {s:Shared} {E:Value->Shared->Prop}
theorem Inv.wish (I:Inv X pins σ H s) (E:Value->Shared->Prop):Inv (X.wish E) pins σ H s:=⟨I.ok.wish E,I.os,I.bare,I.base,I.loc,I.cell,I.free,I.freeC,I.pin,I.hok,I.len⟩
theorem Inv.unwish (I:Inv (X.wish E) pins σ H s):Inv X pins σ H s:=⟨I.ok.unwish,I.os,I.bare,I.base,I.loc,I.cell,I.free,I.freeC,I.pin,I.hok,I.len⟩
theorem SP.unwish {D:Ends} {f:Flow} {s':Shared} (h:SP (X.wish E) pins D f s'):SP X pins D f s':=by
 cases f with
 | next=>obtain ⟨σ',H',I,q⟩:=h; exact ⟨σ',H',I.unwish,q⟩
 | brk=>obtain ⟨σ',H',I,q⟩:=h; exact ⟨σ',H',I.unwish,q⟩
 | cont=>obtain ⟨σ',H',I,q⟩:=h; exact ⟨σ',H',I.unwish,q⟩
 | ret u=>obtain ⟨v,σ',H',I,r,q⟩:=h; exact ⟨v,σ',H',I.unwish,r,q⟩
theorem PE.nox {e:Expr} {t:TE} (h:PE X.nox e t):PE X e t:=fun pins s σ H Q I hw =>
 wpAny_mono (h pins s σ H Q (I.wish _) hw) (fun _ _ ⟨v,H',I',r,q⟩=>⟨v,H',I'.unwish,r,q⟩) fun _ _ z=>False.elim z
theorem PT.nox {e:Expr} {t:TT} (h:PT X.nox e t):PT X e t:=fun pins s σ H Q I hw =>
 wpAny_mono (h pins s σ H Q (I.wish _) hw) (fun _ _ ⟨H',I',q⟩=>⟨H',I'.unwish,q⟩) fun _ _ z=>False.elim z
theorem PSs.nox {st:List Stmt} {t:TS} (h:PSs X.nox st t):PSs X st t:=fun pins s σ H D I hw =>
 wpAny_mono (h pins s σ H D (I.wish _) hw) (fun _ _ q=>q.unwish) fun _ _ z=>False.elim z
end
section
variable {X:Cx} {st:Stmt} {mH:List Stmt} {t u:TS} {e:Expr} {te:TE} {pos:Pos}
def aFr:TS:=fun D σ H=>D.nx σ H
def aF3 (t u:TS):TS:=fun D σ H=>t { D with nx:=u D } σ H
theorem aT:PSs X [] aFr:=fun _ _ σ H _ I h=>wpAny_execs_nil ⟨σ,H,I,h⟩
theorem aD (h1:PS X st t) (h2:PSs X mH u):PSs X (st::mH) (aF3 t u):=by
 intro pins s σ H D I h
 refine wpAny_execs_cons (thn (h1 pins s σ H { D with nx:=u D } I h) fun f s1 q=>?_)
 cases f with
 | next =>
  obtain ⟨σ',H',I',q⟩:=q
  exact h2 pins s1 σ' H' D I' q
 | ret v=>exact q
 | brk=>exact q
 | cont=>exact q
theorem aF (h1:PS X st t):PSs X [st] t:=by
 intro pins s σ H D I h
 refine wpAny_execs_cons (thn (h1 pins s σ H D I h) fun f s1 q=>?_)
 cases f with
 | next=>exact wpAny_execs_nil q
 | ret v=>exact q
 | brk=>exact q
 | cont=>exact q
def aEE:TS:=fun D σ H=>D.bk σ H
theorem wJ:PS X (.Break pos) aEE:=fun _ _ σ H _ I h=>wpAny_Break ⟨σ,H,I,h⟩
theorem Inv.quiet {pins:List (Addr×Obj)} {σ:St} {H:Hp} {s:Shared} (I:Inv X pins σ H s):interactive X.env=false:=by simp [interactive,I.ok.kind]
def aFs (te:TE):TS:=fun D σ H=>te σ H fun _ H1=>D.nx σ H1
theorem dZ (he:PE X e te) (hs:swapsWith e none pos.line X.env=pure false:=by rfl):PS X (.Expr e pos) (aFs te):=by
 intro pins s σ H D I h
 refine wpAny_Expr_any (thn (he pins s σ H _ I h) fun v s1 hx9=>?_) I.quiet hs
 obtain ⟨x,H1,I1,r1,q1⟩:=hx9
 exact ⟨σ,H1,I1,q1⟩
def aF4 (te:TE):TS:=fun D σ H=>te σ H D.rt
theorem aQ (he:PE X e te):PS X (.Return (some e) pos) (aF4 te):=by
 intro pins s σ H D I h
 refine wpAny_Return_some (thn (he pins s σ H _ I h) fun v s1 hx9=>?_)
 obtain ⟨x,H1,I1,r1,q1⟩:=hx9
 exact ⟨x,σ,H1,I1,r1,q1⟩
def aF5 (c:TT) (t u:TS):TS:=fun D σ H=>c σ H fun b H1=>if b=true then t D σ H1 else u D σ H1
theorem bJ {c:Expr} {a b:List Stmt} {tc:TT} (hc:PT X c tc) (ha:PSs X a t) (hb:PSs X b u):PS X (.If c a b pos) (aF5 tc t u):=by
 intro pins s σ H D I h
 refine wpAny_If (thn (hc pins s σ H _ I h) fun d s1 hx9=>?_)
 obtain ⟨H1,I1,q1⟩:=hx9
 cases d with
 | true=>exact ha pins s1 σ H1 D I1 q1
 | false=>exact hb pins s1 σ H1 D I1 q1
def aEF:TS:=fun _ _ _=>False
theorem lD {sts:List Stmt}:PSs X sts aEF:=fun _ _ _ _ _ _ h=>h.elim
end
abbrev TG:=V->St->Hp->(St->Hp->Prop)->Prop
abbrev TGs:=List V->St->Hp->(St->Hp->Prop)->Prop
def PG (X:Cx) (target:Expr) (t:TG):Prop :=
 ∀ (pins:List (Addr×Obj)) (s:Shared) (σ:St) (H:Hp) (v:V) (u:Value) (Q:St->Hp->Prop),Inv X pins σ H s->bI v u->t v σ H Q ->
  wpAny (model X.prog X.w) X.A (assign target X.env u) (fun _ s'=>∃ σ' H',Inv X pins σ' H' s'/\Q σ' H') X.xe s
def PGs (X:Cx) (ts:List Expr) (t:TGs):Prop :=
 ∀ (pins:List (Addr×Obj)) (s:Shared) (σ:St) (H:Hp) (vs:List V) (us:List Value) (Q:St->Hp->Prop),Inv X pins σ H s->bB vs us->t vs σ H Q ->
  wpAny (model X.prog X.w) X.A (assignInOrder ((assignEach ts X.env).map (·.2)) us) (fun _ s'=>∃ σ' H',Inv X pins σ' H' s'/\Q σ' H') X.xe s
abbrev aEG:=V->V->V->Hp->(Hp->Prop)->Prop
def aFt (X:Cx) (t:aEG):Prop :=
 ∀ (pins:List (Addr×Obj)) (s:Shared) (σ:St) (H:Hp) (o i v:V) (ov iv u:Value) (Q:Hp->Prop),Inv X pins σ H s->bI o ov->bI i iv->bI v u->t o i v H Q ->
  wpAny (model X.prog X.w) X.A (setItem ov iv u) (fun _ s'=>∃ H',Inv X pins σ H' s'/\Q H') X.xe s
section
variable {X:Cx} {pos:Pos}
def aAo (i:Nat):TG:=fun v σ H Q=>Q (σ.set i (some v)) H
theorem aI {i:Nat} {x:Str} (hN:X.N.Nodup) (hi:X.N[i]?=some x) (hx:Loc X.env.scope x) (hf:X.fn x=true∨X.env.scope.names.lookup x=some .local:=by first | exact .inl rfl | exact .inr rfl | assumption):PG X (.Name x pos) (aAo i):=by
 intro pins s σ H v u Q I r h
 exact wpAny_assign_Name (wI I hN hi hx r (fun s' I'=>⟨_,H,I',h⟩) hf)
def aF6:TGs:=fun vs σ H Q=>vs = []/\Q σ H
def aFu (t:TG) (u:TGs):TGs:=fun vs σ H Q=>∃ v r,vs=v::r/\t v σ H fun σ' H'=>u r σ' H' Q
theorem cH:PGs X [] aF6:=by
 intro pins s σ H vs us Q I r h
 obtain ⟨e,h⟩:=h
 subst e
 cases r
 exact assignInOrder_nil ⟨σ,H,I,h⟩
theorem aO {e:Expr} {es:List Expr} {t:TG} {u:TGs} (h1:PG X e t) (h2:PGs X es u)
  (hs:(assignEach (e::es) X.env).map (·.2)=assign e X.env::(assignEach es X.env).map (·.2):=by rfl):PGs X (e::es) (aFu t u):=by
 intro pins s σ H vs us Q I r h
 obtain ⟨v,vr,e1,h⟩:=h
 subst e1
 cases r with
 | cons r rr =>
  rw [hs]
  refine assignInOrder_cons (thn (h1 pins s σ H _ _ _ I r h) fun _ s1 hx9=>?_)
  obtain ⟨σ1,H1,I1,q1⟩:=hx9
  exact h2 pins s1 σ1 H1 _ _ Q I1 rr q1
def aFv (K:PySem.W.Frag) (n:Nat) (t:TGs):TG:=fun v σ H Q=>∃ a xs,v=.ref a/\SqT K H a xs/\xs.length=n/\t xs σ H Q
theorem eG {es:List Expr} {k:Nat} {t:TGs} {n:Nat} (hc:X.calm=true) (h:PGs X es t)
  (hn:(assignEach es X.env).length=n:=by rfl) (hst:(assignEach es X.env).findIdx? (·.1)=none:=by rfl):PG X (.Tuple es k pos) (aFv X.K n t):=by
 intro pins s σ H v u Q I r hw
 obtain ⟨a,xs,e1,hq,hl,hw⟩:=hw
 subst e1
 cases r
 obtain ⟨its,rv,ht,hz⟩:=I.tuple hq
 refine assign_Tuple_tuple (I.ok.hd hc) ht (by simp [hn,<- hl,rv.length]) hst fun h' hx=>?_
 have I1:Inv X pins σ H { s with heap:=h' }:=I.kept (t':=s.toks) fun b o e=>hx b o (As (Ak e)) e
 exact h pins _ σ H xs _ Q I1 (by simpa using rv) hw
def aF7 (to ti:TE) (t:aEG):TG:=fun v σ H Q=>to σ H fun o H1=>ti σ H1 fun i H2=>t o i v H2 fun H3=>Q σ H3
theorem oA {o i:Expr} {to ti:TE} {t:aEG} (ho:PE X o to) (hi:PE X i ti) (hs:aFt X t)
  (ha:∀ v,assign (.Subscript o i pos) X.env v=(do
   let ov<-holding [v] (eval o X.env)
   let iv<-holding [v,ov] (eval i X.env)
   standAt pos
   holding [v,ov,iv] (setItem ov iv v)
   release [v,ov,iv] []):=by intro _; rfl):PG X (.Subscript o i pos) (aF7 to ti t):=by
 intro pins s σ H v u Q I r h
 rw [ha]
 refine wpAny_bind (wpAny_holding (thn (ho pins s σ H _ I h) fun ov s1 hx9=>?_))
 obtain ⟨x,H1,I1,r1,q1⟩:=hx9
 refine wpAny_bind (wpAny_holding (thn (hi pins s1 σ H1 _ I1 q1) fun iv s2 hx9=>?_))
 obtain ⟨y,H2,I2,r2,q2⟩:=hx9
 refine wpAny_bind (wpAny_standAt (wpAny_bind (wpAny_holding (thn (hs pins s2 σ H2 x y v ov iv u _ I2 r1 r2 r q2) fun _ s3 hx9=>?_))))
 obtain ⟨H3,I3,q3⟩:=hx9
 exact wpAny_release ⟨σ,H3,I3,q3⟩
def aEH (te:TE) (g:TG):TS:=fun D σ H=>te σ H fun x H1=>g x σ H1 D.nx
theorem fZ {tg e:Expr} {te:TE} {g:TG} (he:PE X e te) (hg:PG X tg g) (hs:swapsWithSole [tg] e pos.line X.env=pure false:=by rfl) (hw:swappedStores [tg] e X.env=pure none:=by rfl)
  (h1:(assignEach [tg] X.env).map (·.2) = [assign tg X.env]:=by rfl):PS X (.Assign [tg] e pos) (aEH te g):=by
 intro pins s σ H D I h
 refine wpAny_Assign_stores (thn (he pins s σ H _ I h) fun v s1 hx9=>?_) hs hw
 obtain ⟨x,H1,I1,r1,q1⟩:=hx9
 rw [h1]
 exact thn (hg pins s1 σ H1 x v _ I1 r1 q1) fun _ s2 q=>q
theorem aV {i:Nat} {x:Str} {e:Expr} {te:TE} {pos':Pos} (hN:X.N.Nodup) (hi:X.N[i]?=some x) (hx:Loc X.env.scope x) (he:PE X e te) (hs:swapsWith e (some (.Name x pos')) pos.line X.env=pure false:=by rfl) (hf:X.fn x=true∨X.env.scope.names.lookup x=some .local:=by first | exact .inl rfl | exact .inr rfl | assumption) :
  PS X (.Assign [.Name x pos'] e pos) (aEH te (aAo i)):=by
 intro pins s σ H D I h
 refine wpAny_Assign_Name (thn (he pins s σ H _ I h) fun v s1 hx9=>?_) hs
 obtain ⟨y,H1,I1,r1,q1⟩:=hx9
 exact wI I1 hN hi hx r1 (fun s2 I2=>⟨_,H1,I2,q1⟩) hf
def aEI (c:TT) (tb:TS):TS:=fun D σ H=>∃ W:Nat->St->Hp->Prop,(∃ m,W m σ H)/\∀ m σ H,W m σ H ->
 c σ H fun b H1=>if b=true then ∃ N:St->Hp->Prop,(∀ σ' H',N σ' H'->∃ m',m' < m/\W m' σ' H')/\tb { D with nx:=N,ct:=N,bk:=D.nx } σ H1 else D.nx σ H1
theorem mY {c:Expr} {body:List Stmt} {tc:TT} {tb:TS} (hp:PassesOwn (model X.prog X.w) X.A X.env X.xe) (hc:PT X c tc) (hb:PSs X body tb):PS X (.While c body [] pos) (aEI tc tb):=by
 intro pins s σ H D I h
 obtain ⟨W,⟨m0,w0⟩,turn⟩:=h
 refine wpAny_While (codeAny_whileLoop (fun n s'=>∃ σ' H',Inv X pins σ' H' s'/\W n σ' H') ?_ m0 ⟨σ,H,I,w0⟩)
 rintro n s1 ⟨σ1,H1,I1,w1⟩
 refine wpAny_passesOwn hp (thn (hc pins s1 σ1 H1 _ I1 (turn n σ1 H1 w1)) fun b s2 hx9=>?_)
 obtain ⟨H2,I2,q2⟩:=hx9
 cases b with
 | true =>
  obtain ⟨N,hN,q2⟩:=q2
  rw [if_pos rfl]
  refine wpAny_passesOwn hp (thn (hb pins s2 σ1 H2 _ I2 q2) fun f s3 q3=>?_)
  cases f with
  | next =>
   obtain ⟨σ3,H3,I3,n3⟩:=q3
   obtain ⟨m',hm,w3⟩:=hN σ3 H3 n3
   exact ⟨m',hm,σ3,H3,I3,w3⟩
  | cont =>
   obtain ⟨σ3,H3,I3,n3⟩:=q3
   obtain ⟨m',hm,w3⟩:=hN σ3 H3 n3
   exact ⟨m',hm,σ3,H3,I3,w3⟩
  | brk=>exact q3
  | ret v=>exact q3
 | false =>
  rw [if_neg Ar]
  exact wpAny_execs_nil ⟨σ1,H2,I2,q2⟩
end
structure It where
 go:Nat->Hp->Prop
 yld:Nat->Hp->V->Hp->Prop
 stop:Nat->Hp->Prop
def qF (X:Cx) (pins:List (Addr×Obj)) (H:Hp) (b:Addr):Prop :=
 H b=none/\b≠X.env.locals/\b∉X.fs/\(b∈X.ex∨X.s₀.heap.objs.size<=b)/\(∀ x c,X.env.cells.lookup x=some c->c≠b)/\∀ p∈X.pn++pins,p.1≠b
theorem Inv.fpOk {X:Cx} {pins:List (Addr×Obj)} {σ:St} {H H':Hp} {s:Shared} {b:Addr} (I:Inv X pins σ H s) (hb:s.heap.objs.size<=b) (hn:H' b=none):qF X pins H' b:=by
 refine ⟨hn,Cb (Au I.lt hb),I.nofs hb,.inr (At I.sz hb),fun x c e z=>?_,fun p hp z=>?_⟩
 ·obtain ⟨v,q⟩:=I.cell x c e
  exact absurd (Au q.lt (by rw [z]; exact hb)) (Bq _)
 ·exact absurd (Au (Ak (I.pin p hp).1) (by rw [z]; exact hb)) (Bq _)
structure Turn (P:Program) (w:World) (K:PySem.W.Frag) (tg:Expr) (J:It) (fp:List Addr) (it:Addr) (tn:Nat->Heap->Prop):Prop where
 mem:it∈fp
 obj:∀ i h,tn i h->∀ b∈fp,∃ o,h.get? b=some o/\∀ v,o.data≠.cell v
 keep:∀ i h h',tn i h->(∀ b∈fp,∀ o,h.get? b=some o->h'.get? b=some o)->tn i h'
 item:∀ (X:Cx),X.prog=P->X.w=w->X.K=K->X.calm=true->∀ (i:Nat) (pins:List (Addr×Obj)) (s:Shared) (σ:St) (H:Hp) (E:Value->Shared->Prop),Inv X pins σ H s->(∀ b∈fp,qF X pins H b)->tn i s.heap->J.go i H ->
  wpAny (model P w) X.A (pyNext (.ref it)) (fun r s1=>∃ u,r=some u /\
   wpAny (model P w) X.A (letOwnedTupleGo tg (.ref it) u) (fun _ s2=>∃ x H',Inv X pins σ H' s2/\bI x u/\J.yld i H x H'/\tn (i+1) s2.heap/\∀ b∈fp,H' b=none) E s1) E s
 done:∀ (X:Cx),X.prog=P->X.w=w->X.K=K->X.calm=true->∀ (i:Nat) (pins:List (Addr×Obj)) (s:Shared) (σ:St) (H:Hp) (E:Value->Shared->Prop),Inv X pins σ H s->(∀ b∈fp,qF X pins H b)->tn i s.heap->J.stop i H ->
  wpAny (model P w) X.A (pyNext (.ref it)) (fun r s1=>r=none/\Inv X pins σ H s1) E s
 self:∀ (A:Around) (i:Nat) (s:Shared) (Q:Value->Shared->Prop) (E:Value->Shared->Prop),tn i s.heap->Q (.ref it) s->wpAny (model P w) A (pyIter (.ref it)) Q E s
abbrev TI:=St->Hp->(It->Hp->Prop)->Prop
def PIE (X:Cx) (pins:List (Addr×Obj)) (σ:St) (tg:Expr) (R:It->Hp->Prop) (itv:Value) (s2:Shared):Prop :=
 ∃ (it:Addr) (fp:List Addr) (tn:Nat->Heap->Prop) (J:It) (H':Hp),itv=.ref it/\Inv X pins σ H' s2/\Turn X.prog X.w X.K tg J fp it tn/\tn 0 s2.heap/\(∀ b∈fp,qF X pins H' b)/\R J H'
def PI (X:Cx) (tg iter:Expr) (wi:TI):Prop :=
 ∀ (pins:List (Addr×Obj)) (s:Shared) (σ:St) (H:Hp) (R:It->Hp->Prop),Inv X pins σ H s->wi σ H R ->
  wpAny (model X.prog X.w) X.A (eval iter X.env) (fun v s1=>wpAny (model X.prog X.w) X.A (pyIter v) (PIE X pins σ tg R) X.xe s1) X.xe s
theorem aAp {M:Model} {A:Around} {E:Value->Shared->Prop} {s:Shared} {tg:Expr} {it:Addr} {u:Value} {o:Obj} {n:String} {vs:Array Value} {Q:Unit->Shared->Prop} (ho:s.heap.get? it=some o) (hc:o.cls=.type n) (hd:o.data=.fields vs)
  (hn : ["enumerate", "zip", "dict_itemiterator", "dict_reverseitemiterator", "odict_iterator", "itertools.zip_longest", "itertools.pairwise"].contains n=false) (hQ:Q () s):wpAny M A (letOwnedTupleGo tg (.ref it) u) Q E s:=by
 unfold letOwnedTupleGo
 cases tg <;> first
  | exact wpAny_pure hQ
  | (cases u <;> first
    | exact wpAny_pure hQ
    | (refine wpAny_bind (wpAny_load ho ?_)
       rw [hc,hd]
       show wpAny M A (if (["enumerate", "zip", "dict_itemiterator", "dict_reverseitemiterator", "odict_iterator", "itertools.zip_longest", "itertools.pairwise"].contains n && vs[0]?==some (rawInt _))=true then _ else _) Q E s
       rw [if_neg (by intro h; rw [hn,Gi] at h; cases h)]
       exact wpAny_pure hQ))
def Itl (K:PySem.W.Frag) (a:Addr):It :=
 ⟨fun i H=>∃ xs x,SqL K H a xs/\xs[i]?=some x,fun i H x H'=>H'=H/\∀ xs,SqL K H a xs->xs[i]?=some x,fun i H=>∃ xs,SqL K H a xs/\xs.length<=i⟩
def Itt (K:PySem.W.Frag) (a:Addr):It :=
 ⟨fun i H=>∃ xs x,SqT K H a xs/\xs[i]?=some x,fun i H x H'=>H'=H/\∀ xs,SqT K H a xs->xs[i]?=some x,fun i H=>∃ xs,SqT K H a xs/\xs.length<=i⟩
def Itr (lo:Int) (n:Nat):It:=⟨fun i _=>i < n,fun i H x H'=>H'=H/\x=.int (lo+i),fun i _=>n<=i⟩
theorem aA7 {P:Program} {w:World} {K:PySem.W.Frag} {tg:Expr} (a it:Addr):Turn P w K tg (Itl K a) [it] it (fun i h=>h.IsListIter it a i) where
 mem:=by simp
 obj:=fun i h st b hb=>by
  have e:b=it:=by simpa using hb
  subst e
  obtain ⟨o,e,c,d⟩:=st
  exact ⟨o,e,fun v z=>by rw [d] at z; cases z⟩
 keep:=fun i h h' st k=>st.at fun o e=>k it (by simp) o e
 item:=by
  intro X hP hw hK hc i pins s σ H E I hf st hg
  subst hP hw hK
  obtain ⟨xs,x,hq,hx⟩:=hg
  obtain ⟨its,rv,p,hz⟩:=I.list hq
  obtain ⟨u,hu,ru⟩:=rv.get hx
  obtain ⟨f0,f1,f2,f3,f4,f5⟩:=hf it (by simp)
  refine wpAny_pyNext_list_item st p.isList (x:=u) (by simpa using hu) fun h' st' sb=>?_
  have I1:Inv X pins σ H { s with heap:=h' }:=I.turned (t':=s.toks) (fun b o hb e=>(sb.2 b hb).trans e) f0 f1 f3 f4 f5
  obtain ⟨o,e,c,d⟩:=id st'
  exact ⟨u,rfl,aAp (s:={ s with heap:=h' }) e c d (by decide) ⟨x,H,I1,ru,⟨rfl,fun ys hy=>by rw [I.list_inj hy hq]; exact hx⟩,st',fun b hb=>(hf b hb).1⟩⟩
 done:=by
  intro X hP hw hK hc i pins s σ H E I hf st hg
  subst hP hw hK
  obtain ⟨xs,hq,hx⟩:=hg
  obtain ⟨its,rv,p,hz⟩:=I.list hq
  obtain ⟨f0,f1,f2,f3,f4,f5⟩:=hf it (by simp)
  have hl:=rv.length
  exact wpAny_pyNext_list_end (I.ok.hd hc) st p.isList (by simp; omega) fun h' eb=>⟨rfl,I.turned (t':=s.toks) (fun b o hb e=>eb b o hb e) f0 f1 f3 f4 f5⟩
 self:=fun _ _ _ _ _ st h=>wpAny_pyIter_listiter st h
theorem yO {P:Program} {w:World} {K:PySem.W.Frag} {tg:Expr} (a it:Addr):Turn P w K tg (Itt K a) [it] it (fun i h=>h.IsTupleIter it a i) where
 mem:=by simp
 obj:=fun i h st b hb=>by
  have e:b=it:=by simpa using hb
  subst e
  obtain ⟨o,e,c,d⟩:=st
  exact ⟨o,e,fun v z=>by rw [d] at z; cases z⟩
 keep:=fun i h h' st k=>st.at fun o e=>k it (by simp) o e
 item:=by
  intro X hP hw hK hc i pins s σ H E I hf st hg
  subst hP hw hK
  obtain ⟨xs,x,hq,hx⟩:=hg
  obtain ⟨its,rv,p,hz⟩:=I.tuple hq
  obtain ⟨u,hu,ru⟩:=rv.get hx
  obtain ⟨f0,f1,f2,f3,f4,f5⟩:=hf it (by simp)
  refine wpAny_pyNext_tuple_item st (show s.heap.IsTuple a its.toArray from p) (x:=u) (by simpa using hu) fun h' st' sb=>?_
  have I1:Inv X pins σ H { s with heap:=h' }:=I.turned (t':=s.toks) (fun b o hb e=>(sb.2 b hb).trans e) f0 f1 f3 f4 f5
  obtain ⟨o,e,c,d⟩:=id st'
  exact ⟨u,rfl,aAp (s:={ s with heap:=h' }) e c d (by decide) ⟨x,H,I1,ru,⟨rfl,fun ys hy=>by rw [I.tuple_inj hy hq]; exact hx⟩,st',fun b hb=>(hf b hb).1⟩⟩
 done:=by
  intro X hP hw hK hc i pins s σ H E I hf st hg
  subst hP hw hK
  obtain ⟨xs,hq,hx⟩:=hg
  obtain ⟨its,rv,p,hz⟩:=I.tuple hq
  obtain ⟨f0,f1,f2,f3,f4,f5⟩:=hf it (by simp)
  have hl:=rv.length
  exact wpAny_pyNext_tuple_end (I.ok.hd hc) st (show s.heap.IsTuple a its.toArray from p) (by simp; omega) fun h' eb=>⟨rfl,I.turned (t':=s.toks) (fun b o hb e=>eb b o hb e) f0 f1 f3 f4 f5⟩
 self:=fun _ _ _ _ _ st h=>wpAny_pyIter_tupleiter st h
theorem yP {P:Program} {w:World} {K:PySem.W.Frag} {tg:Expr} (it:Addr) (lo:Int) (n:Nat):Turn P w K tg (Itr lo n) [it] it (fun i h=>IsRangeIter h it (lo+(i:Nat)*1) ((n:Int) - (i:Nat)) 1) where
 mem:=by simp
 obj:=fun i h st b hb=>by
  have e:b=it:=by simpa using hb
  subst e
  exact ⟨_,st,fun v z=>by
   have z':Data.fields _=Data.cell v:=z
   cases z'⟩
 keep:=fun i h h' st k=>k it (by simp) _ st
 item:=by
  intro X hP hw hK hc i pins s σ H E I hf st hg
  subst hP hw hK
  obtain ⟨f0,f1,f2,f3,f4,f5⟩:=hf it (by simp)
  have W:=Walks.range (prog:=X.prog) (w:=X.w) (I.ok.hd hc) it lo 1 n
  refine W.item i s _ _ hg st fun v h' tk hv st' kk=>?_
  obtain ⟨t,rfl⟩:=hv
  have I1:Inv X pins σ H { s with heap:=h',toks:=tk }:=I.turned (fun b o hb e=>kk b o (by simpa using hb) e) f0 f1 f3 f4 f5
  refine ⟨_,rfl,aAp (s:={ s with heap:=h',toks:=tk }) (n := "range_iterator") st' rfl rfl (by decide) ⟨.int (lo+i),H,I1,⟨t,?_⟩,⟨rfl,rfl⟩,st',fun b hb=>(hf b hb).1⟩⟩
  rw [Int.mul_one]
 done:=by
  intro X hP hw hK hc i pins s σ H E I hf st hg
  subst hP hw hK
  obtain ⟨f0,f1,f2,f3,f4,f5⟩:=hf it (by simp)
  exact wpAny_pyNext_range_end (I.ok.hd hc) st (by have:n<=i:=hg; omega) fun h' eb=>⟨rfl,I.turned (t':=s.toks) (fun b o hb e=>eb b o hb e) f0 f1 f3 f4 f5⟩
 self:=fun _ _ _ _ _ st h=>wpAny_pyIter_rangeiter st h
section
variable {X:Cx} {tg:Expr}
def aFw (K:PySem.W.Frag) (tl:TE):TI:=fun σ H R=>tl σ H fun x H1=>∃ a,x=.ref a/\(∃ xs,SqL K H1 a xs)/\R (Itl K a) H1
def aFx (K:PySem.W.Frag) (tl:TE):TI:=fun σ H R=>tl σ H fun x H1=>∃ a,x=.ref a/\(∃ xs,SqT K H1 a xs)/\R (Itt K a) H1
theorem gJ {l:Expr} {tl:TE} (hl:PE X l tl):PI X tg l (aFw X.K tl):=by
 intro pins s σ H R I h
 refine thn (hl pins s σ H _ I h) fun v s1 hx9=>?_
 obtain ⟨x,H1,I1,r1,q1⟩:=hx9
 obtain ⟨a,e,⟨xs,hq⟩,q⟩:=q1
 subst e
 cases r1
 obtain ⟨its,rv,p,hz⟩:=I1.list hq
 refine wpAny_pyIter_list p.isList ?_
 refine ⟨s1.heap.objs.size,[s1.heap.objs.size],_,_,H1,rfl,I1.kept (t':=s1.toks) fun b o e=>Aa _ e,aA7 a _,⟨_,Ag _ rfl,rfl,rfl⟩,fun b hb=>?_,q⟩
 have e:b=s1.heap.objs.size:=by simpa using hb
 subst e
 exact I1.fpOk (Ai _) (I1.hok.fresh (Ai _))
theorem eA {l:Expr} {tl:TE} (hl:PE X l tl):PI X tg l (aFx X.K tl):=by
 intro pins s σ H R I h
 refine thn (hl pins s σ H _ I h) fun v s1 hx9=>?_
 obtain ⟨x,H1,I1,r1,q1⟩:=hx9
 obtain ⟨a,e,⟨xs,hq⟩,q⟩:=q1
 subst e
 cases r1
 obtain ⟨its,rv,p,hz⟩:=I1.tuple hq
 refine wpAny_pyIter_tuple (show s1.heap.IsTuple a its.toArray from p) ?_
 refine ⟨s1.heap.objs.size,[s1.heap.objs.size],_,_,H1,rfl,I1.kept (t':=s1.toks) fun b o e=>Aa _ e,yO a _,⟨_,Ag _ rfl,rfl,rfl⟩,fun b hb=>?_,q⟩
 have e:b=s1.heap.objs.size:=by simpa using hb
 subst e
 exact I1.fpOk (Ai _) (I1.hok.fresh (Ai _))
theorem aBY {pins:List (Addr×Obj)} {σ:St} {H:Hp} {s:Shared} {R:It->Hp->Prop} {E:Value->Shared->Prop} {lo hi:Int} {t u v:Tok} {tk:Nat} (I:Inv X pins σ H s) (h1:-(2^62)<=lo) (h2:lo < 2^62) (h3:-(2^62)<=hi) (h4:hi < 2^62)
  (q:R (Itr lo (hi - lo).toNat) H):wpAny (model X.prog X.w) X.A (pyIter (.ref s.heap.objs.size)) (PIE X pins σ tg R) E { s with heap:=s.heap.push { cls:=.type "range",data:=.fields #[.int lo t,.int hi u,.int 1 v] },toks:=tk }:=by
 refine wpAny_pyIter_range (IsRange.new ..) (small_one h1 h2 h3 h4) ?_
 have I1:Inv X pins σ H { s with heap:=s.heap.push { cls:=.type "range",data:=.fields #[.int lo t,.int hi u,.int 1 v] },toks:=tk }:=I.kept fun b o e=>Aa _ e
 refine ⟨(s.heap.push { cls:=.type "range",data:=.fields #[.int lo t,.int hi u,.int 1 v] }).objs.size,[(s.heap.push { cls:=.type "range",data:=.fields #[.int lo t,.int hi u,.int 1 v] }).objs.size],_,_,H,rfl,
  I1.kept (t':=tk) fun b o e=>Aa _ e,yP _ lo (hi - lo).toNat,?_,fun b hb=>?_,q⟩
 ·have e1:lo+((0:Nat):Int)*1=lo:=by simp
  have e2:(((hi - lo).toNat:Nat):Int) - ((0:Nat):Int)=Builtin.Range.rangeSize lo hi 1:=by rw [rangeSize_one]; split <;> omega
  show IsRangeIter _ _ (lo+((0:Nat):Int)*1) ((((hi - lo).toNat:Nat):Int) - ((0:Nat):Int)) 1
  rw [e1,e2]
  exact Ag _ rfl
 ·have e:b=(s.heap.push { cls:=.type "range",data:=.fields #[.int lo t,.int hi u,.int 1 v] }).objs.size:=by simpa using hb
  subst e
  exact I1.fpOk (Ai _) (I1.hok.fresh (Ai _))
def aFy (ta:TA):TI:=fun σ H R=>ta σ H fun vs H1=>∃ j:Int,vs = [.int j]/\-(2^62)<=j/\j < 2^62/\R (Itr 0 j.toNat) H1
theorem eE {a:Expr} {ta:TA} {p pos:Pos} (hg:Gl X "range") (hm:X.mg "range" = none) (ha:PA X [a] ta) (hs:starEach [a] X.env = [(false,eval a X.env)]:=by rfl):PI X tg (.Call (.Name "range" p) [a] [] pos) (aFy ta):=by
 intro pins s σ H R I h
 refine Call_ (iU I hg hm boot_range (PyProof.Rows.callWith_type1 (thn (ha pos pins s σ H _ I h) fun us s1 hx9=>?_) hs rfl))
 obtain ⟨vs,H1,I1,r1,q1⟩:=hx9
 obtain ⟨j,e,q1,q2,q⟩:=q1
 subst e
 cases r1 with
 | cons r rr =>
  cases rr
  obtain ⟨t,rfl⟩:=r
  exact call_range_1 (aBY I1 (by omega) (by omega) q1 q2 (by simpa using q))
def aF8 (wi:TI) (g:TG) (tb:TS):TS:=fun D σ H=>wi σ H fun J H1=>∃ W:Nat->Nat->St->Hp->Prop,(∃ m,W 0 m σ H1)/\∀ i m σ H,W i m σ H ->
 (J.stop i H/\D.nx σ H)∨(J.go i H/\∃ N:St->Hp->Prop,(∀ σ' H',N σ' H'->∃ m',m' < m/\W (i+1) m' σ' H')/\∀ x H',J.yld i H x H'->g x σ H' fun σ2 H2=>tb { D with nx:=N,ct:=N,bk:=D.nx } σ2 H2)
def qG (fp:List Addr) (h:Heap):List (Addr×Obj):=fp.filterMap fun b=>(h.get? b).map fun o=>(b,o)
theorem jM {fp:List Addr} {h:Heap} {b:Addr} {o:Obj} (hb:b∈fp) (e:h.get? b=some o):(b,o)∈qG fp h:=Go.mpr ⟨b,hb,by rw [e]; rfl⟩
theorem aA8 {fp:List Addr} {h:Heap} {p:Addr×Obj} (hp:p∈qG fp h):p.1∈fp/\h.get? p.1=some p.2:=by
 obtain ⟨b,hb,e⟩:=Go.mp hp
 cases q:h.get? b with
 | none=>rw [q] at e; cases e
 | some o =>
  rw [q] at e
  have e':(b,o)=p:=Option.some.inj e
  subst e'
  exact ⟨hb,q⟩
theorem Inv.pinned {pins:List (Addr×Obj)} {σ:St} {H:Hp} {s:Shared} {fp:List Addr} (I:Inv X pins σ H s) (hf:∀ b∈fp,qF X pins H b) (ho:∀ b∈fp,∃ o,s.heap.get? b=some o/\∀ v,o.data≠.cell v):Inv X (pins++qG fp s.heap) σ H s :=
 I.pins_of fun p hp=>(Bp.mp hp).elim (fun z=>I.pin p (Bw _ z)) fun z=>by
  obtain ⟨hb,e⟩:=aA8 z
  obtain ⟨f0,f1,f2,_⟩:=hf p.1 hb
  obtain ⟨o,e',d⟩:=ho p.1 hb
  rw [e] at e'; cases e'
  exact ⟨e,f0,f1,f2,d⟩
theorem Inv.unpinned {pins pl:List (Addr×Obj)} {σ:St} {H:Hp} {s:Shared} (I:Inv X (pins++pl) σ H s):Inv X pins σ H s:=I.pins_of fun p hp=>I.pin p (Bw _ (Cf _ hp))
theorem eU {iter:Expr} {body:List Stmt} {wi:TI} {g:TG} {tb:TS} {pos:Pos} (hp:PassesOwn (model X.prog X.w) X.A X.env X.xe) (hc:X.calm=true) (hi:PI X tg iter wi) (hg:PG X tg g) (hb:PSs X body tb)
  (hs:∀ x,foldedSetIterable iter X.env x=pure x:=by intro _; rfl):PS X (.For tg iter body [] pos) (aF8 wi g tb):=by
 intro pins s σ H D I h
 refine wpAny_For (thn (hi pins s σ H _ I h) fun v s1 h1=>thn h1 fun itv s2 h2=>?_) hs
 obtain ⟨it,fp,tn,J,H2,e,I2,T,st2,f2,W,⟨m0,w0⟩,turn⟩:=h2
 subst e
 -- what stays true of the iterator's objects through the loop
 have stat:∀ {H':Hp},(∀ b∈fp,H' b=none)->∀ b∈fp,qF X pins H' b:=fun hn b hb=>⟨hn b hb,(f2 b hb).2⟩
 refine codeAny_forLoop_any (fun n s'=>∃ i σ' H',Inv X pins σ' H' s'/\tn i s'.heap/\(∀ b∈fp,H' b=none)/\W i n σ' H') ?_ m0 ⟨0,σ,H2,I2,st2,fun b hb=>(f2 b hb).1,w0⟩
 rintro n s3 ⟨i,σ3,H3,I3,st3,fr3,w3⟩
 rcases turn i n σ3 H3 w3 with ⟨stop,qn⟩ | ⟨go,N,hN,step⟩
 ·refine wpAny_passesOwn hp (thn (T.done X rfl rfl rfl hc i pins s3 σ3 H3 X.xe I3 (stat fr3) st3 stop) fun r s4 hx9=>?_)
  obtain ⟨hr,I4⟩:=hx9
  subst hr
  exact wpAny_execs_nil ⟨σ3,H3,I4,qn⟩
 ·refine wpAny_passesOwn hp (thn (T.item X rfl rfl rfl hc i pins s3 σ3 H3 X.xe I3 (stat fr3) st3 go) fun r s4 hx9=>?_)
  obtain ⟨u,hr,h4⟩:=hx9
  subst hr
  refine wpAny_passesOwn hp (thn h4 fun _ s5 hx9=>?_)
  obtain ⟨x,H5,I5,r5,y5,st5,fr5⟩:=hx9
  have I5':=I5.pinned (stat fr5) (T.obj _ _ st5)
  refine wpAny_passesOwn hp (thn (hg _ s5 σ3 H5 x u _ I5' r5 (step x H5 y5)) fun _ s6 hx9=>?_)
  obtain ⟨σ6,H6,I6,q6⟩:=hx9
  refine wpAny_passesOwn hp (thn (hb _ s6 σ6 H6 _ I6 q6) fun f s7 q7=>?_)
  have again:∀ {σ7:St} {H7:Hp},Inv X (pins++qG fp s5.heap) σ7 H7 s7->N σ7 H7->∃ m,m < n/\∃ i σ' H',Inv X pins σ' H' s7/\tn i s7.heap/\(∀ b∈fp,H' b=none)/\W i m σ' H':=fun {σ7 H7} I7 n7=>by
   obtain ⟨m',hm,w7⟩:=hN σ7 H7 n7
   refine ⟨m',hm,i+1,σ7,H7,I7.unpinned,T.keep _ _ _ st5 fun b hb o e=>(I7.pin (b,o) (Bw _ (Bw _ (jM hb e)))).1,fun b hb=>?_,w7⟩
   obtain ⟨o,e,d⟩:=T.obj _ _ st5 b hb
   exact (I7.pin (b,o) (Bw _ (Bw _ (jM hb e)))).2.1
  cases f with
  | next=>obtain ⟨σ7,H7,I7,n7⟩:=q7; exact again I7 n7
  | cont=>obtain ⟨σ7,H7,I7,n7⟩:=q7; exact again I7 n7
  | brk=>obtain ⟨σ7,H7,I7,q7⟩:=q7; exact ⟨σ7,H7,I7.unpinned,q7⟩
  | ret v=>obtain ⟨x7,σ7,H7,I7,r7,q7⟩:=q7; exact ⟨x7,σ7,H7,I7.unpinned,r7,q7⟩
end
theorem kD {K:PySem.W.Frag} {a:Addr} {xs:List V} {g:TG} {tb:TS} {D:Ends} {σ:St} {H:Hp} (Pv:Nat->St->Hp->Prop) (h0:Pv 0 σ H) (hl:∀ i σ H,i<=xs.length->Pv i σ H->SqL K H a xs)
  (hs:∀ i x σ H,xs[i]?=some x->Pv i σ H->g x σ H fun σ2 H2=>tb { D with nx:=Pv (i+1),ct:=Pv (i+1),bk:=D.nx } σ2 H2) (hd:∀ σ H,Pv xs.length σ H->D.nx σ H) :
  ∃ W:Nat->Nat->St->Hp->Prop,(∃ m,W 0 m σ H)/\∀ i m σ H,W i m σ H ->
   ((Itl K a).stop i H/\D.nx σ H)∨((Itl K a).go i H/\∃ N:St->Hp->Prop,(∀ σ' H',N σ' H'->∃ m',m' < m/\W (i+1) m' σ' H')/\∀ x H',(Itl K a).yld i H x H'->g x σ H' fun σ2 H2=>tb { D with nx:=N,ct:=N,bk:=D.nx } σ2 H2):=by
 refine ⟨fun i m σ H=>m=xs.length - i/\i<=xs.length/\Pv i σ H,⟨xs.length,by simp,Bo _,h0⟩,?_⟩
 rintro i m σ H ⟨rfl,hi,p⟩
 have q:=hl i σ H hi p
 by_cases hlt:i < xs.length
 ·refine .inr ⟨⟨xs,xs[i],q,by simp [hlt]⟩,Pv (i+1),fun σ' H' p'=>⟨xs.length - (i+1),by omega,rfl,hlt,p'⟩,fun x H' y=>?_⟩
  obtain ⟨e,y⟩:=y
  subst e
  exact hs i x σ _ (y xs q) p
 ·have e:i=xs.length:=by omega
  subst e
  exact .inl ⟨⟨xs,q,Ai _⟩,hd σ H p⟩
theorem uS {K:PySem.W.Frag} {a:Addr} {xs:List V} {g:TG} {tb:TS} {D:Ends} {σ:St} {H:Hp} (Pv:Nat->St->Hp->Prop) (h0:Pv 0 σ H) (hl:∀ i σ H,i<=xs.length->Pv i σ H->SqT K H a xs)
  (hs:∀ i x σ H,xs[i]?=some x->Pv i σ H->g x σ H fun σ2 H2=>tb { D with nx:=Pv (i+1),ct:=Pv (i+1),bk:=D.nx } σ2 H2) (hd:∀ σ H,Pv xs.length σ H->D.nx σ H) :
  ∃ W:Nat->Nat->St->Hp->Prop,(∃ m,W 0 m σ H)/\∀ i m σ H,W i m σ H ->
   ((Itt K a).stop i H/\D.nx σ H)∨((Itt K a).go i H/\∃ N:St->Hp->Prop,(∀ σ' H',N σ' H'->∃ m',m' < m/\W (i+1) m' σ' H')/\∀ x H',(Itt K a).yld i H x H'->g x σ H' fun σ2 H2=>tb { D with nx:=N,ct:=N,bk:=D.nx } σ2 H2):=by
 refine ⟨fun i m σ H=>m=xs.length - i/\i<=xs.length/\Pv i σ H,⟨xs.length,by simp,Bo _,h0⟩,?_⟩
 rintro i m σ H ⟨rfl,hi,p⟩
 have q:=hl i σ H hi p
 by_cases hlt:i < xs.length
 ·refine .inr ⟨⟨xs,xs[i],q,by simp [hlt]⟩,Pv (i+1),fun σ' H' p'=>⟨xs.length - (i+1),by omega,rfl,hlt,p'⟩,fun x H' y=>?_⟩
  obtain ⟨e,y⟩:=y
  subst e
  exact hs i x σ _ (y xs q) p
 ·have e:i=xs.length:=by omega
  subst e
  exact .inl ⟨⟨xs,q,Ai _⟩,hd σ H p⟩
theorem oB {lo:Int} {n:Nat} {g:TG} {tb:TS} {D:Ends} {σ:St} {H:Hp} (Pv:Nat->St->Hp->Prop) (h0:Pv 0 σ H)
  (hs:∀ i σ H,i < n->Pv i σ H->g (.int (lo+i)) σ H fun σ2 H2=>tb { D with nx:=Pv (i+1),ct:=Pv (i+1),bk:=D.nx } σ2 H2) (hd:∀ σ H,Pv n σ H->D.nx σ H) :
  ∃ W:Nat->Nat->St->Hp->Prop,(∃ m,W 0 m σ H)/\∀ i m σ H,W i m σ H ->
   ((Itr lo n).stop i H/\D.nx σ H)∨((Itr lo n).go i H/\∃ N:St->Hp->Prop,(∀ σ' H',N σ' H'->∃ m',m' < m/\W (i+1) m' σ' H')/\∀ x H',(Itr lo n).yld i H x H'->g x σ H' fun σ2 H2=>tb { D with nx:=N,ct:=N,bk:=D.nx } σ2 H2):=by
 refine ⟨fun i m σ H=>m=n - i/\i<=n/\Pv i σ H,⟨n,by simp,Bo _,h0⟩,?_⟩
 rintro i m σ H ⟨rfl,hi,p⟩
 by_cases hlt:i < n
 ·refine .inr ⟨hlt,Pv (i+1),fun σ' H' p'=>⟨n - (i+1),by omega,rfl,hlt,p'⟩,fun x H' y=>?_⟩
  obtain ⟨e,y⟩:=y
  subst e y
  exact hs i σ _ hlt p
 ·have e:i=n:=by omega
  subst e
  exact .inl ⟨Ai _,hd σ H p⟩
abbrev R2:=V->V->Hp->VK->Prop
def OpR (X:Cx) (f:Value->Value->Sem Value) (r:R2):Prop :=
 ∀ (pins:List (Addr×Obj)) (s:Shared) (σ:St) (H:Hp) (x y:V) (v u:Value) (Q:VK),Inv X pins σ H s->bI x v->bI y u->r x y H Q ->
  wpAny (model X.prog X.w) X.A (f v u) (EP X pins σ Q) X.xe s
def UnR (X:Cx) (f:Value->Sem Value) (r:V->Hp->VK->Prop):Prop :=
 ∀ (pins:List (Addr×Obj)) (s:Shared) (σ:St) (H:Hp) (x:V) (v:Value) (Q:VK),Inv X pins σ H s->bI x v->r x H Q ->
  wpAny (model X.prog X.w) X.A (f v) (EP X pins σ Q) X.xe s
def eT (X:Cx) (f:Value) (r:List V->Hp->VK->Prop):Prop :=
 ∀ (pins:List (Addr×Obj)) (s:Shared) (σ:St) (H:Hp) (xs:List V) (us:List Value) (Q:VK),Inv X pins σ H s->bB xs us->r xs H Q ->
  wpAny (model X.prog X.w) X.A (call f us) (EP X pins σ Q) X.xe s
def aF9 (X:Cx) (r:V->Hp->(Bool->Hp->Prop)->Prop):Prop :=
 ∀ (pins:List (Addr×Obj)) (s:Shared) (σ:St) (H:Hp) (x:V) (v:Value) (Q:Bool->Hp->Prop),Inv X pins σ H s->bI x v->r x H Q ->
  wpAny (model X.prog X.w) X.A (truthy v) (TP X pins σ Q) X.xe s
def tOp (r:R2) (ta tb:TE):TE:=fun σ H Q=>ta σ H fun x H1=>tb σ H1 fun y H2=>r x y H2 Q
def tUn (r:V->Hp->VK->Prop) (ta:TE):TE:=fun σ H Q=>ta σ H fun x H1=>r x H1 Q
def rI (C:Int->Int->Prop) (g:Int->Int->V):R2:=fun x y H Q=>∃ i j,x=.int i/\y=.int j/\C i j/\Q (g i j) H
def rI0 (g:Int->Int->V):R2:=fun x y H Q=>∃ i j,x=.int i/\y=.int j/\Q (g i j) H
def rU (g:Int->V):V->Hp->VK->Prop:=fun x H Q=>∃ i,x=.int i/\Q (g i) H
section
variable {X:Cx} {a b c:Expr} {ta tb tc:TE} {pos:Pos}
theorem aEJ (ha:PE X a ta) (hb:PE X b tb) {pins:List (Addr×Obj)} {s:Shared} {σ:St} {H:Hp} {R:V->V->Hp->Prop} (I:Inv X pins σ H s)
  (h:ta σ H fun x H1=>tb σ H1 fun y H2=>R x y H2) {Q:Value->Shared->Prop} {f:Value->Value->Sem Value}
  (hf:∀ v u s2 x y H2,Inv X pins σ H2 s2->bI x v->bI y u->R x y H2->wpAny (model X.prog X.w) X.A (f v u) Q X.xe s2) :
  wpAny (model X.prog X.w) X.A (eval a X.env) (fun v s₁=>wpAny (model X.prog X.w) X.A (eval b X.env) (fun u s₂=>wpAny (model X.prog X.w) X.A (f v u) Q X.xe s₂) X.xe s₁) X.xe s:=by
 refine thn (ha pins s σ H _ I h) fun v s1 hx9=>?_
 obtain ⟨x,H1,I1,r1,q1⟩:=hx9
 refine thn (hb pins s1 σ H1 _ I1 q1) fun u s2 hx9=>?_
 obtain ⟨y,H2,I2,r2,q2⟩:=hx9
 exact hf v u s2 x y H2 I2 r1 r2 q2
theorem bC {op:Operator} {r:R2} (ho:OpR X (binaryOp op) r) (ha:PE X a ta) (hb:PE X b tb):PE X (.BinOp a op b pos) (tOp r ta tb):=by
 intro pins s σ H Q I h
 exact wpAny_BinOp (aEJ ha hb I h fun v u s2 x y H2 I2 rx ry q=>ho pins s2 σ H2 x y v u Q I2 rx ry q)
theorem aBZ {op:UnaryOp} {r:V->Hp->VK->Prop} (ho:UnR X (unaryOp op) r) (ha:PE X a ta):PE X (.UnaryOp op a pos) (tUn r ta):=by
 intro pins s σ H Q I h
 refine UnaryOp_ (thn (ha pins s σ H _ I h) fun v s1 hx9=>?_)
 obtain ⟨x,H1,I1,r1,q1⟩:=hx9
 exact ho pins s1 σ H1 x v Q I1 r1 q1
theorem opI {f:Value->Value->Sem Value} {C:Int->Int->Prop} {g:Int->Int->Int}
  (rule:∀ (i j:Int) (t u:Tok) (s:Shared) (Q:Value->Shared->Prop) (E:Value->Shared->Prop),C i j->Q (.int (g i j) s.toks) { s with toks:=s.toks+1 }->wpAny (model X.prog X.w) X.A (f (.int i t) (.int j u)) Q E s) :
  OpR X f (rI C fun i j=>.int (g i j)):=by
 intro pins s σ H x y v u Q I rx ry h
 obtain ⟨i,j,rfl,rfl,hc,q⟩:=h
 obtain ⟨t,rfl⟩:=rx
 obtain ⟨t',rfl⟩:=ry
 exact rule i j t t' s _ _ hc ⟨.int (g i j),H,I.tok _,⟨_,rfl⟩,q⟩
theorem aFz {f:Value->Value->Sem Value} {g:Int->Int->Int}
  (rule:∀ (i j:Int) (t u:Tok) (s:Shared) (Q:Value->Shared->Prop) (E:Value->Shared->Prop),Q (.int (g i j) s.toks) { s with toks:=s.toks+1 }->wpAny (model X.prog X.w) X.A (f (.int i t) (.int j u)) Q E s) :
  OpR X f (rI0 fun i j=>.int (g i j)):=by
 intro pins s σ H x y v u Q I rx ry h
 obtain ⟨i,j,rfl,rfl,q⟩:=h
 obtain ⟨t,rfl⟩:=rx
 obtain ⟨t',rfl⟩:=ry
 exact rule i j t t' s _ _ ⟨.int (g i j),H,I.tok _,⟨_,rfl⟩,q⟩
theorem aDx {f:Value->Value->Sem Value} {g:Int->Int->Bool}
  (rule:∀ (i j:Int) (t u:Tok) (s:Shared) (Q:Value->Shared->Prop) (E:Value->Shared->Prop),Q (.bool (g i j)) s->wpAny (model X.prog X.w) X.A (f (.int i t) (.int j u)) Q E s) :
  OpR X f (rI0 fun i j=>.bl (g i j)):=by
 intro pins s σ H x y v u Q I rx ry h
 obtain ⟨i,j,rfl,rfl,q⟩:=h
 obtain ⟨t,rfl⟩:=rx
 obtain ⟨t',rfl⟩:=ry
 exact rule i j t t' s _ _ ⟨.bl (g i j),H,I,rfl,q⟩
def aGa (i j:Int):Prop:=0<=j/\j<=1000000/\i.natAbs < 2^64
def aEK (i j:Int):Prop:=(-(2^64) < i/\i < 2^64)∨(-(2^64) < j/\j < 2^64)
theorem aEK.ok {i j:Int} (h:aEK i j):IntMulOk i j:=by
 rcases h with ⟨h1,h2⟩ | ⟨h1,h2⟩
 ·exact .of_left (intBits_le_64 h1 h2)
 ·exact .of_right (intBits_le_64 h1 h2)
theorem eI:OpR X (binaryOp .Add) (rI0 fun i j=>.int (i+j)):=aFz fun _ _ _ _ _ _ _ q=>add_int q
theorem mI:OpR X (binaryOp .Sub) (rI0 fun i j=>.int (i - j)):=aFz fun _ _ _ _ _ _ _ q=>sub_int q
theorem iV:OpR X (binaryOp .Mult) (rI aEK fun i j=>.int (i*j)):=opI fun _ _ _ _ _ _ _ hc q=>mul_int q hc.ok
theorem kE:OpR X (binaryOp .Mod) (rI (fun _ j=>0 < j) fun i j=>.int (i % j)):=opI fun i j _ _ _ _ _ hc q=>by
 have h1:(0:Int) < j:=hc
 exact mod_int' (by omega) (by rw [Int.fmod_eq_emod_of_nonneg i (by omega)]; exact q)
theorem aEL:OpR X (binaryOp .Pow) (rI aGa fun i j=>.int (i^j.toNat)):=opI fun _ _ _ _ _ _ _ hc q=>pow_int_small hc.1 hc.2.1 hc.2.2 q
theorem unI {f:Value->Sem Value} {g:Int->Int}
  (rule:∀ (i:Int) (t:Tok) (s:Shared) (Q:Value->Shared->Prop) (E:Value->Shared->Prop),Q (.int (g i) s.toks) { s with toks:=s.toks+1 }->wpAny (model X.prog X.w) X.A (f (.int i t)) Q E s) :
  UnR X f (rU fun i=>.int (g i)):=by
 intro pins s σ H x v Q I rx h
 obtain ⟨i,rfl,q⟩:=h
 obtain ⟨t,rfl⟩:=rx
 exact rule i t s _ _ ⟨.int (g i),H,I.tok _,⟨_,rfl⟩,q⟩
theorem yQ:UnR X (unaryOp .USub) (rU fun i=>.int (-i)):=unI fun _ _ _ _ _ q=>neg_int q
def aFA:V->V->Bool
 | .non,.non=>true | .non,.int _=>true | .int _,.non=>true | .non,.bl _=>true | .bl _,.non=>true | .non,.str _=>true | .str _,.non=>true
 | .int _,.int _=>true | .bl _,.bl _=>true | .str _,.str _=>true | .byt _,.byt _=>true
 | .int _,.str _=>true | .str _,.int _=>true | .bl _,.str _=>true | .str _,.bl _=>true
 | _,_=>false
def rEq:R2:=fun x y H Q=>aFA x y=true/\Q (.bl (decide (x=y))) H
def rNe:R2:=fun x y H Q=>aFA x y=true/\Q (.bl (!decide (x=y))) H
theorem pP {i j:Int}:decide (V.int i=V.int j)=(i==j):=by
 rw [Cm]
 simp
theorem aB0 {i j:Bool}:decide (V.bl i=V.bl j)=(i==j):=by
 rw [Cm]
 simp
theorem aAq {i j:Str}:decide (V.str i=V.str j)=(i==j):=by
 rw [Cm]
 simp
theorem aAr {i j:Array UInt8}:decide (V.byt i=V.byt j)=(i.toList==j.toList):=by
 rw [Cm]
 cases i
 cases j
 simp
theorem bN {pins:List (Addr×Obj)} {σ:St} {H:Hp} {s:Shared} {Q:VK} {k k':Bool} (I:Inv X pins σ H s) (q:Q (.bl k) H) (e:k=k'):EP X pins σ Q (.bool k') s:=by
 subst e
 exact ⟨.bl k,H,I,rfl,q⟩
theorem iC:OpR X (compareOp .Eq) rEq:=by
 intro pins s σ H x y v u Q I rx ry h
 obtain ⟨hs,q⟩:=h
 cases x with
 | non =>
  cases rx
  cases y with
  | non=>cases ry; exact PySem.EqNone.eq_none_none (bN I q (by simp))
  | bl j=>cases ry; exact PySem.EqNone.eq_none_bool (bN I q (by simp))
  | int j=>obtain ⟨t',rfl⟩:=ry; exact PySem.EqNone.eq_none_int (bN I q (by simp))
  | str j=>obtain ⟨t',rfl⟩:=ry; exact PySem.EqNone.eq_none_str (bN I q (by simp))
  | _=>exact absurd (show false=true from hs) Ar
 | bl i =>
  cases rx
  cases y with
  | non=>cases ry; exact PySem.EqNone.eq_bool_none (bN I q (by simp))
  | bl j=>cases ry; exact eq_bool (bN I q aB0)
  | str j=>obtain ⟨t',rfl⟩:=ry; exact PySem.EqMixed.eq_bool_str (bN I q (by simp))
  | _=>exact absurd (show false=true from hs) Ar
 | int i =>
  obtain ⟨t,rfl⟩:=rx
  cases y with
  | non=>cases ry; exact PySem.EqNone.eq_int_none (bN I q (by simp))
  | int j=>obtain ⟨t',rfl⟩:=ry; exact eq_int (bN I q pP)
  | str j=>obtain ⟨t',rfl⟩:=ry; exact PySem.EqMixed.eq_int_str (bN I q (by simp))
  | _=>exact absurd (show false=true from hs) Ar
 | str i =>
  obtain ⟨t,rfl⟩:=rx
  cases y with
  | non=>cases ry; exact PySem.EqNone.eq_str_none (bN I q (by simp))
  | bl j=>cases ry; exact PySem.EqMixed.eq_str_bool (bN I q (by simp))
  | int j=>obtain ⟨t',rfl⟩:=ry; exact PySem.EqMixed.eq_str_int (bN I q (by simp))
  | str j=>obtain ⟨t',rfl⟩:=ry; exact eq_str (bN I q aAq)
  | _=>exact absurd (show false=true from hs) Ar
 | byt i =>
  obtain ⟨t,rfl⟩:=rx
  cases y with
  | byt j=>obtain ⟨t',rfl⟩:=ry; exact PySem.W.eq_bytes (bN I q aAr)
  | _=>exact absurd (show false=true from hs) Ar
 | _=>cases y <;> exact absurd (show false=true from hs) Ar
theorem iZ:OpR X (compareOp .NotEq) rNe:=by
 intro pins s σ H x y v u Q I rx ry h
 obtain ⟨hs,q⟩:=h
 cases x with
 | non =>
  cases rx
  cases y with
  | non=>cases ry; exact PySem.EqNone.ne_none_none (bN I q (by simp))
  | bl j=>cases ry; exact PySem.EqNone.ne_none_bool (bN I q (by simp))
  | int j=>obtain ⟨t',rfl⟩:=ry; exact PySem.EqNone.ne_none_int (bN I q (by simp))
  | str j=>obtain ⟨t',rfl⟩:=ry; exact PySem.EqNone.ne_none_str (bN I q (by simp))
  | _=>exact absurd (show false=true from hs) Ar
 | bl i =>
  cases rx
  cases y with
  | non=>cases ry; exact PySem.EqNone.ne_bool_none (bN I q (by simp))
  | bl j=>cases ry; exact ne_bool (bN I q (congrArg not aB0))
  | str j=>obtain ⟨t',rfl⟩:=ry; exact PySem.EqMixed.ne_bool_str (bN I q (by simp))
  | _=>exact absurd (show false=true from hs) Ar
 | int i =>
  obtain ⟨t,rfl⟩:=rx
  cases y with
  | non=>cases ry; exact PySem.EqNone.ne_int_none (bN I q (by simp))
  | int j=>obtain ⟨t',rfl⟩:=ry; exact ne_int (bN I q (congrArg not pP))
  | str j=>obtain ⟨t',rfl⟩:=ry; exact PySem.EqMixed.ne_int_str (bN I q (by simp))
  | _=>exact absurd (show false=true from hs) Ar
 | str i =>
  obtain ⟨t,rfl⟩:=rx
  cases y with
  | non=>cases ry; exact PySem.EqNone.ne_str_none (bN I q (by simp))
  | bl j=>cases ry; exact PySem.EqMixed.ne_str_bool (bN I q (by simp))
  | int j=>obtain ⟨t',rfl⟩:=ry; exact PySem.EqMixed.ne_str_int (bN I q (by simp))
  | str j=>obtain ⟨t',rfl⟩:=ry; exact ne_str (bN I q (congrArg not aAq))
  | _=>exact absurd (show false=true from hs) Ar
 | byt i =>
  obtain ⟨t,rfl⟩:=rx
  cases y with
  | byt j=>obtain ⟨t',rfl⟩:=ry; exact PySem.W.ne_bytes (bN I q (congrArg not aAr))
  | _=>exact absurd (show false=true from hs) Ar
 | _=>cases y <;> exact absurd (show false=true from hs) Ar
theorem oX:OpR X (compareOp .Lt) (rI0 fun i j=>.bl (decide (i < j))):=aDx fun _ _ _ _ _ _ _ q=>lt_int q
theorem qH:OpR X (compareOp .LtE) (rI0 fun i j=>.bl (decide (i<=j))):=aDx fun _ _ _ _ _ _ _ q=>le_int q
theorem wK:OpR X (compareOp .Gt) (rI0 fun i j=>.bl (decide (j < i))):=aDx fun _ _ _ _ _ _ _ q=>gt_int q
theorem qI:OpR X (compareOp .GtE) (rI0 fun i j=>.bl (decide (j<=i))):=aDx fun _ _ _ _ _ _ _ q=>ge_int q
theorem yR:OpR X (compareOp .Is) (fun x y H Q=>y=.non/\Q (.bl (decide (x=.non))) H):=by
 intro pins s σ H x y v u Q I rx ry h
 obtain ⟨rfl,q⟩:=h
 cases ry
 refine is_none_gen (bN I q ?_)
 cases x <;> first
  | (cases rx; rfl)
  | (obtain ⟨t,rfl⟩:=rx; rfl)
theorem pQ:OpR X (compareOp .IsNot) (fun x y H Q=>y=.non/\Q (.bl (!decide (x=.non))) H):=by
 intro pins s σ H x y v u Q I rx ry h
 obtain ⟨rfl,q⟩:=h
 cases ry
 refine isnot_none_gen (bN I q ?_)
 cases x <;> first
  | (cases rx; rfl)
  | (obtain ⟨t,rfl⟩:=rx; rfl)
theorem aN (b:Expr) {op:CmpOp} (h:op≠.In:=by decide) (h2:op≠.NotIn:=by decide):behindInMarks op b=false:=by
 have e1:(op==CmpOp.In)=false:=by cases op <;> first | rfl | exact absurd rfl h
 have e2:(op==CmpOp.NotIn)=false:=by cases op <;> first | rfl | exact absurd rfl h2
 cases b <;> simp [behindInMarks,e1,e2]
theorem fJ {op:CmpOp} {r:R2} (ho:OpR X (compareOp op) r) (ha:PE X a ta) (hb:PE X b tb) (hm:behindInMarks op b=false):PE X (.Compare a [op] [b] pos) (tOp r ta tb):=by
 intro pins s σ H Q I h
 exact wpAny_Compare1 (aEJ ha hb I h fun v u s2 x y H2 I2 rx ry q=>ho pins s2 σ H2 x y v u Q I2 rx ry q) hm
def aEl (t:TE):TT:=fun σ H Q=>t σ H fun x H'=>∃ k,x=.bl k/\Q k H'
theorem aL {op:CmpOp} {r:R2} (ho:OpR X (compareOp op) r) (ha:PE X a ta) (hb:PE X b tb) (hm:behindInMarks op b=false):PT X (.Compare a [op] [b] pos) (aEl (tOp r ta tb)):=by
 intro pins s σ H Q I h
 refine wpAny_isTrue_Compare1 (thn (ha pins s σ H _ I h) fun v s1 ⟨x,H1,I1,r1,q1⟩=>thn (hb pins s1 σ H1 _ I1 q1) fun u s2 ⟨y,H2,I2,r2,q2⟩ =>
  thn (ho pins s2 σ H2 x y v u _ I2 r1 r2 q2) fun c s3 ⟨z,H3,I3,r3,k,e,q3⟩=>?_) hm
 subst e
 cases r3
 exact wpAny_truthy_bool ⟨H3,I3,q3⟩
def aB1 (r r':R2) (ta tb tc:TE):TE:=fun σ H Q=>ta σ H fun x H1=>tb σ H1 fun y H2=>r x y H2 fun z H3=>∃ k,z=.bl k /\
 (if k=true then tc σ H3 fun w' H4=>r' y w' H4 Q else Q (.bl false) H3)
theorem wL {op op':CmpOp} {r r':R2} (ho:OpR X (compareOp op) r) (ho':OpR X (compareOp op') r') (ha:PE X a ta) (hb:PE X b tb) (hc:PE X c tc)
  (hm:lastMarks [op,op'] [b,c]=false:=by with_unfolding_all rfl):PE X (.Compare a [op,op'] [b,c] pos) (aB1 r r' ta tb tc):=by
 intro pins s σ H Q I h
 refine Compare_chain (thn (ha pins s σ H _ I h) fun v s1 ⟨x,H1,I1,r1,q1⟩=>chain_link (thn (hb pins s1 σ H1 _ I1 q1) fun u s2 ⟨y,H2,I2,r2,q2⟩ =>
  thn (ho pins s2 σ H2 x y v u _ I2 r1 r2 q2) fun d s3 ⟨z,H3,I3,r3,k,e,q3⟩=>?_)) hm
 subst e
 cases r3
 refine wpAny_truthy_bool ?_
 cases k with
 | false=>exact ite_ff ⟨.bl false,H3,I3,rfl,q3⟩
 | true=>exact ite_tt (chain_last (thn (hc pins s3 σ H3 _ I3 q3) fun w' s4 ⟨z',H4,I4,r4,q4⟩=>ho' pins s4 σ H4 y z' u w' Q I4 r2 r4 q4))
theorem aB2 {op op':CmpOp} {r r':R2} (ho:OpR X (compareOp op) r) (ho':OpR X (compareOp op') r') (ha:PE X a ta) (hb:PE X b tb) (hc:PE X c tc)
  (hm:lastMarks [op,op'] [b,c]=false:=by with_unfolding_all rfl):PT X (.Compare a [op,op'] [b,c] pos) (aEl (aB1 r r' ta tb tc)):=by
 intro pins s σ H Q I h
 refine isTrue_chain (thn (ha pins s σ H _ I h) fun v s1 ⟨x,H1,I1,r1,q1⟩=>test_link (thn (hb pins s1 σ H1 _ I1 q1) fun u s2 ⟨y,H2,I2,r2,q2⟩ =>
  thn (ho pins s2 σ H2 x y v u _ I2 r1 r2 q2) fun d s3 ⟨z,H3,I3,r3,k,e,q3⟩=>?_)) hm
 subst e
 cases r3
 refine wpAny_truthy_bool ?_
 cases k with
 | false =>
  obtain ⟨k',e',q'⟩:=q3
  cases e'
  exact ite_ff ⟨H3,I3,q'⟩
 | true =>
  refine ite_tt (test_last (thn (hc pins s3 σ H3 _ I3 q3) fun w' s4 ⟨z',H4,I4,r4,q4⟩=>thn (ho' pins s4 σ H4 y z' u w' _ I4 r2 r4 q4) fun d' s5 hx9=>?_))
  obtain ⟨z2,H5,I5,r5,k2,e2,q5⟩:=hx9
  subst e2
  cases r5
  exact wpAny_truthy_bool ⟨H5,I5,q5⟩
def aFB (K:PySem.W.Frag) (x:V) (H:Hp) (k:Bool):Prop :=
 match x with
 | .non=>k=false
 | .bl b=>k=b
 | .int i=>k=(i !=0)
 | .str y=>y.length<=sizeLine/\k=((y.length:Int) !=0)
 | .byt y=>y.size<=sizeLine/\k=((y.size:Int) !=0)
 | .ref p=>(∃ xs,SqL K H p xs/\k=!xs.isEmpty)∨(∃ xs,SqT K H p xs/\k=!xs.isEmpty)∨∃ kvs,H p=some (.dK kvs)/\k=!kvs.isEmpty
 | _=>False
theorem yS {κ:Type} {kvs:List (κ×V)} {vs:List (κ×Value)} (r:KV kvs vs):(!vs.isEmpty)=!kvs.isEmpty:=by
 cases r <;> rfl
theorem qJ {xs:List V} {its:List Value} (r:bB xs its):(!its.toArray.isEmpty)=!xs.isEmpty:=by
 cases r <;> simp
theorem qK:(sizeLine:Nat) < 2^63:=by rw [sizeLine_eq]; decide
theorem aEM:aF9 X (fun x H Q=>∃ k,aFB X.K x H k/\Q k H):=by
 intro pins s σ H x v Q I rx h
 obtain ⟨k,e,q⟩:=h
 have hl:=qK
 have hs:sizeLine=16777216:=sizeLine_eq
 cases x with
 | non =>
  cases rx
  have e':k=false:=e
  subst e'
  exact truthy_none ⟨H,I,q⟩
 | bl b =>
  cases rx
  have e':k=b:=e
  subst e'
  exact wpAny_truthy_bool ⟨H,I,q⟩
 | int i =>
  obtain ⟨t,rfl⟩:=rx
  have e':k=(i !=0):=e
  subst e'
  exact PySem.P.truthy_int ⟨H,I,q⟩
 | str y =>
  obtain ⟨t,rfl⟩:=rx
  obtain ⟨hy,e'⟩:y.length<=sizeLine/\k=((y.length:Int) !=0):=e
  subst e'
  exact PySem.P.truthy_str (by omega) ⟨H,I.tok _,q⟩
 | byt y =>
  obtain ⟨t,rfl⟩:=rx
  obtain ⟨hy,e'⟩:y.size<=sizeLine/\k=((y.size:Int) !=0):=e
  subst e'
  exact PySem.W.truthy_bytes (by omega) ⟨H,I.tok _,q⟩
 | ref p =>
  cases rx
  have e':(∃ xs,SqL X.K H p xs/\k=!xs.isEmpty)∨(∃ xs,SqT X.K H p xs/\k=!xs.isEmpty)∨∃ kvs,H p=some (.dK kvs)/\k=!kvs.isEmpty:=e
  rcases e' with ⟨xs,hx,e'⟩ | ⟨xs,hx,e'⟩ | ⟨kvs,hx,e'⟩
  ·subst e'
   obtain ⟨its,r,pl,hz⟩:=I.list hx
   have hlen:=r.length
   exact wpAny_truthy_list pl.isList (by simp only [Aj]; omega) ⟨H,I.tok _,by rw [qJ r]; exact q⟩
  ·subst e'
   obtain ⟨its,r,pl,hz⟩:=I.tuple hx
   have hlen:=r.length
   exact truthy_tuple pl (by simp only [Aj]; omega) ⟨H,I.tok _,by rw [qJ r]; exact q⟩
  ·subst e'
   obtain ⟨hz,hS,vs,r,m⟩:kvs.length<=sizeLine/\(p==sysModules)=false/\∃ vs,KV kvs vs/\s.heap.DictOf (cM X.prog X.w) p vs:=I.hok p _ hx
   have hlen:kvs.length=vs.length:=Paired.length r
   exact wpAny_truthy_dict hS m (by omega) ⟨H,I.tok _,by rw [yS r]; exact q⟩
 | _=>exact (show False from e).elim
theorem aB3 (ha:PE X a ta) (he:∀ whole,isTrue a X.env whole=(do let v<-whole; standAt a.pos; holding [v] (truthy v))) :
  PT X a (fun σ H Q=>ta σ H fun x H'=>∃ k,aFB X.K x H' k/\Q k H'):=by
 intro pins s σ H Q I h
 refine isTrue_plain (thn (ha pins s σ H _ I h) fun v s1 hx9=>?_) (he _)
 obtain ⟨x,H1,I1,r1,q1⟩:=hx9
 exact aEM pins s1 σ H1 x v Q I1 r1 q1
theorem eN {x:V} {us:List Value} (r:bB [x] us):∃ u,us = [u]/\bI x u:=by
 cases r with
 | cons r1 r2=>cases r2; exact ⟨_,rfl,r1⟩
theorem mZ {x y:V} {us:List Value} (r:bB [x,y] us):∃ u w',us = [u,w']/\bI x u/\bI y w':=by
 cases r with
 | cons r1 r2 =>
  cases r2 with
  | cons r3 r4=>cases r4; exact ⟨_,_,rfl,r1,r3⟩
theorem aA9 (hc:X.calm=true):eT X (.builtin "max") (fun xs H Q=>∃ i j,xs = [.int i,.int j]/\Q (.int (if j > i then j else i)) H):=by
 intro pins s σ H xs us Q I r h
 obtain ⟨i,j,rfl,q⟩:=h
 obtain ⟨u,w',rfl,⟨t,rfl⟩,⟨t',rfl⟩⟩:=mZ r
 refine max_two_ints (I.ok.hd hc) fun h' tk k=>⟨_,H,I.kept k,?_,q⟩
 by_cases hj:j > i
 ·rw [if_pos hj,if_pos hj]; exact ⟨_,rfl⟩
 ·rw [if_neg hj,if_neg hj]; exact ⟨_,rfl⟩
end
structure ObjM (h:Heap) (x dx C:Addr) (mA:Str->Option Value):Prop where
 obj:h.get? x=some (PySem.W.instObj C dx)
 ns:h.Ns1 dx mA
 ne:dx≠x
theorem aBa {h:Heap} {dx:Addr} {mA:Str->Option Value} (n:h.Ns1 dx mA):∃ od,h.get? dx=some od/\∀ name,PySem.W.lookIn name od=some (mA name):=by
 obtain ⟨o,es,ep,ho,hd,hk,_,hm⟩:=n
 refine ⟨o,ho,fun name=>?_⟩
 have e:=hm name
 unfold nsFind findBy at e
 rw [<- Array.find?_toList] at e
 unfold PySem.W.lookIn
 rw [hd]
 dsimp only
 split
 ·rename_i y q
  rw [q] at e
  exact congrArg some e
 ·rename_i q
  rw [q] at e
  have a:es.toList.any (·.refKey)=false:=by
   rw [List.any_eq_false]
   intro y hy
   obtain ⟨z,t,hkey⟩:=hk y (Array.mem_toList_iff.mp hy)
   simp [DictEntry.refKey,hkey]
  have a':¬ es.toList.any (·.refKey)=true:=by rw [a]; exact Ar
  rw [if_neg a']
  exact congrArg some e
theorem ObjM.look {h:Heap} {x dx C:Addr} {mA:Str->Option Value} (I:ObjM h x dx C mA):∃ od,PySem.W.InstAt h x (PySem.W.instObj C dx) C (some od)/\∀ name,PySem.W.lookIn name od=some (mA name) :=
 let ⟨od,ho,hl⟩:=aBa I.ns
 ⟨od,⟨I.obj,rfl,rfl,ho⟩,hl⟩
section
variable {prog:Program} {w:World} {A:Around} {E:Value->Shared->Prop} {s:Shared} {K:PySem.W.Frag} {x dx C f:Addr} {mA:Str->Option Value} {name:Str} {v:Value}
end
theorem pK.some_of {v:V} {o:Option Value} (r:pK (some v) o):∃ u,o=some u/\bI v u:=by
 cases o with
 | none=>exact (show False from r).elim
 | some u=>exact ⟨u,rfl,r⟩
section
variable {P:Program} {w:World} {H H':Hp} {h h':Heap} {a C dx:Addr} {fs fs':List (Str×V)}
end
structure Cls (K:PySem.W.Frag) (C:Addr):Prop where
 pg:PySem.W.plainGet K C Str.empty=true
 hd:PySem.W.hasDictIn K C=true
 po:PySem.W.plainOver K C=true
 sa:PySem.W.findIn K (.ref C) "__setattr__" = some (some (.builtin "object.__setattr__"))
theorem Cls.get {K:PySem.W.Frag} {C:Addr} (c:Cls K C) (f:Str):PySem.W.plainGet K C f=true:=c.pg
def aB4 (K:PySem.W.Frag) (C:Addr) (f:Str):Prop:=PySem.W.findIn K (.ref C) f=some none
theorem aB4.taker {K:PySem.W.Frag} {C:Addr} {f:Str} (n:aB4 K C f):PySem.W.takerIn K C f=some none:=by
 unfold PySem.W.takerIn
 rw [show PySem.W.findIn K (.ref C) f=some none from n]
 rfl
structure Con (K:PySem.W.Frag) (C:Addr) (f:Str) (v:V) (u:Value):Prop where
 at_:PySem.W.findIn K (.ref C) f=some (some u)
 rel:bI v u
 get:PySem.W.specialIn K u "__get__" = some none
 cp:PySem.W.copiedNames.contains f=false
structure Meth (K:PySem.W.Frag) (C:Addr) (m:Str) (f:Addr):Prop where
 at_:PySem.W.findIn K (.ref C) m=some (some (.ref f))
 fn:PySem.W.isFn K (.ref f)=true
 kp:PySem.W.keepIn K (.ref f)=true
section
variable {X:Cx} {pins:List (Addr×Obj)} {σ:St} {H:Hp} {s:Shared} {a C dx:Addr} {fs:List (Str×V)} {f:Str} {v:V} {A:Around} {E:Value->Shared->Prop}
theorem Inv.made (I:Inv X pins σ H s):Inv X pins σ (upd (upd H s.heap.objs.size (.own (s.heap.objs.size+1))) (s.heap.objs.size+1) (.ins C s.heap.objs.size []))
  { s with heap:=(s.heap.push PySem.W.emptyDict).push (PySem.W.instObj C s.heap.objs.size) }:=by
 have e1:(s.heap.push PySem.W.emptyDict).get? s.heap.objs.size=some PySem.W.emptyDict:=Ag s.heap rfl
 have e2:((s.heap.push PySem.W.emptyDict).push (PySem.W.instObj C s.heap.objs.size)).get? (s.heap.objs.size+1)=some (PySem.W.instObj C s.heap.objs.size):=by
  have:=Ag (s.heap.push PySem.W.emptyDict) (o:=PySem.W.instObj C s.heap.objs.size) rfl
  rwa [Bj] at this
 have e3:(s.heap.push PySem.W.emptyDict).Ns s.heap.objs.size (fun _=>none):=⟨PySem.W.emptyDict,#[],_,e1,rfl,(fun e he=>absurd he (by simp)),fun _=>rfl⟩
 have I1:=I.laid (a:=s.heap.objs.size) (o:=.own (s.heap.objs.size+1)) (h':=s.heap.push PySem.W.emptyDict) (t':=s.toks) (fun b u q=>Aa _ q) (Ai _) ⟨_,e1⟩
 refine I1.laid (a:=s.heap.objs.size+1) (o:=.ins C s.heap.objs.size []) (t':=s.toks) (fun b u q=>Aa _ q) (Nat.le_of_eq (Bj _ _)) ?_
 have ne:s.heap.objs.size≠s.heap.objs.size+1:=As (Dx _)
 refine ⟨by rw [aJ ne,aB],Bo _,ne,e2,fun _=>none,(Heap.Ns1.of_empty e3).at fun o q=>Aa _ q,fun _=>True.intro,fun y hy=>absurd rfl hy⟩
end
section
variable {X:Cx} {o e value:Expr} {f:Str} {pos pos' tpos:Pos} {ta tv:TE}
end
section
variable {X:Cx} {pins:List (Addr×Obj)} {σ:St} {H:Hp} {s:Shared} {A:Around} {E:Value->Shared->Prop} {Q:Value->Shared->Prop} {c:Value} {b:Bool}
inductive TyOf (K:PySem.W.Frag) (H:Hp):V->Value->Prop where
 | non:TyOf K H .non (.type "NoneType")
 | bl (x:Bool):TyOf K H (.bl x) (.type "bool")
 | int (i:Int):TyOf K H (.int i) (.type "int")
 | str (x:Str):TyOf K H (.str x) (.type "str")
 | flt (x:UInt64):TyOf K H (.flt x) (.type "float")
 | lst {a:Addr} {xs:List V} (e:H a=some (.lst xs)):TyOf K H (.ref a) (.type "list")
 | frz {a:Addr} {o:Obj} {xs:List V} (e:H a=some (.frz o (.lst xs))):TyOf K H (.ref a) (.type "list")
 | tup {a:Addr} {xs:List V} (e:H a=some (.tup xs)):TyOf K H (.ref a) (.type "tuple")
 | dK {a:Addr} {kvs:List (Key×V)} (e:H a=some (.dK kvs)):TyOf K H (.ref a) (.type "dict")
 | dT {a:Addr} {kvs:List (List Key×V)} (e:H a=some (.dT kvs)):TyOf K H (.ref a) (.type "dict")
 | ins {a C dx:Addr} {fs:List (Str×V)} (e:H a=some (.ins C dx fs)) (cl:Cls K C) (ha:PySem.W.findIn K (.ref C) "__class__" = some (some (.builtin "object.__class__")))
   (hn:PySem.W.specialIn K (.builtin "object.__class__") "__get__" = some (some (.builtin "getset_descriptor.__get__"))) (htk:PySem.W.takesIn K (.builtin "object.__class__")=some true)
   (hm:PySem.W.mroIn K C (.type "object")=some true):TyOf K H (.ref a) (.ref C)
end
structure Room (k:Nat) (A:Around):Prop where
 hd:A.handled=none
 dp:A.depth+3*k+5 < recursionLimit
 un:A.units+16*k+200 < cLine
 gd:A.guards=some []
theorem Room.mono {j k:Nat} {A:Around} (r:Room k A) (h:j<=k):Room j A:=⟨r.hd,by have:=r.dp; omega,by have:=r.un; omega,r.gd⟩
theorem Room.deeper {k:Nat} {A:Around} (r:Room (k+1) A) (env:Env):Room k (A.deeper env) :=
 ⟨r.hd,by have:=r.dp; show A.depth+1+3*k+5 < _; omega,by have:=r.un; show A.units+3+16*k+200 < _; omega,r.gd⟩
theorem Room.in1 {k:Nat} {A:Around} (r:Room (k+1) A):Room k A.in1 :=
 ⟨r.hd,by have:=r.dp; show A.depth+3*k+5 < _; omega,by have:=r.un; show A.units+1+16*k+200 < _; omega,r.gd⟩
theorem Room.depth {k:Nat} {A:Around} (r:Room k A):A.depth < recursionLimit:=by have:=r.dp; omega
theorem Room.units {k:Nat} {A:Around} (r:Room k A):A.units+64 < cLine:=by have:=r.un; omega
abbrev aB5:TA:=fun _ H Q=>Q [] H
abbrev wM (ta:TE) (tr:TA):TA:=fun σ H Q=>ta σ H fun x H1=>tr σ H1 fun xs H2=>Q (x::xs) H2
section
variable {X:Cx} {e:Expr} {es:List Expr} {te:TE} {t:TA} {pos:Pos}
theorem aC:PA X [] aB5:=fun _ _ _ _ H Q I h=>Calls.spliced_nil ⟨[],H,I,.nil,h⟩
theorem aA (ha:PE X e te) (hr:PA X es t) (hs:starEach (e::es) X.env=(false,eval e X.env)::starEach es X.env:=by rfl):PA X (e::es) (wM te t):=by
 intro pos pins s σ H Q I h
 rw [hs]
 show wpAny _ _ (spliced ((false,eval e X.env)::backTo pos (starEach es X.env))) _ _ s
 refine Calls.spliced_cons (thn (ha pins s σ H _ I h) fun u s1 hx9=>?_)
 obtain ⟨x,H1,I1,r1,q1⟩:=hx9
 refine thn (hr pos pins s1 σ H1 _ I1 q1) fun us s2 hx9=>?_
 obtain ⟨xs,H2,I2,r2,q2⟩:=hx9
 exact ⟨x::xs,H2,I2,.cons r1 r2,q2⟩
def aGb (t:TA):TE:=fun σ H Q=>t σ H fun xs H1=>xs.length<=sizeLine/\∀ p,H1 p=none->Q (.ref p) (upd H1 p (.tup xs))
def aGc (t:TA):TE:=fun σ H Q=>t σ H fun xs H1=>xs.length<=sizeLine/\∀ p,H1 p=none->Q (.ref p) (upd H1 p (.lst xs))
theorem bX {x1} (h:PA X es t):PE X (.Tuple es x1 pos) (aGb t):=by
 intro pins s σ H Q I hq
 refine wpAny_Tuple_spliced (thn (h pos pins s σ H _ I hq) fun us s1 ⟨xs,H1,I1,r,z,q⟩=>⟨by rw [<- r.length]; exact z,?_⟩)
 have hf:H1 s1.heap.objs.size=none:=I1.hok.fresh (Ai _)
 refine ⟨.ref s1.heap.objs.size,upd H1 s1.heap.objs.size (.tup xs),I1.laid (t':=s1.toks) (fun b u e=>Aa _ e) (Ai _) ?_,rfl,q _ hf⟩
 exact ⟨z,us,0,r,Ag _ rfl⟩
theorem eV (h:PA X es t):PE X (.List es pos) (aGc t):=by
 intro pins s σ H Q I hq
 refine wpAny_List_spliced (thn (h pos pins s σ H _ I hq) fun us s1 ⟨xs,H1,I1,r,z,q⟩=>⟨by rw [<- r.length]; exact z,?_⟩)
 have hf:H1 s1.heap.objs.size=none:=I1.hok.fresh (Ai _)
 refine ⟨.ref s1.heap.objs.size,upd H1 s1.heap.objs.size (.lst xs),I1.laid (t':=s1.toks) (fun b u e=>Aa _ e) (Ai _) ?_,rfl,q _ hf⟩
 exact ⟨z,us,0,r,Ag _ rfl⟩
end
abbrev Sp:=List V->Hp->VK->XK->Prop
abbrev CXT:=List Env->Hp->Shared->XK->Value->Shared->Prop
structure Env0 (P:Program) (w:World) (K:PySem.W.Frag) (mg:Str->Option Value) (base:Heap) (A:Around) (outer:List Env) (s:Shared) (H:Hp):Prop where
 frames:A.frames=some outer
 mod:Mod K mg base
 bs:∀ b o,base.get? b=some o->s.heap.get? b=some o/\H b=none
 bsz:base.objs.size<=s.heap.objs.size
 funs:s.heap.FunFrames base outer
 frf:∀ b∈frs outer,H b=none
 hok:HOk P w H s.heap
 bare:AllBare s.gens
def CE (outer:List Env) (P:Program) (w:World) (H:Hp) (s:Shared) (Q:VK) (u:Value) (s':Shared):Prop :=
 ∃ v H',s'.os=s.os/\AllBare s'.gens/\Un (frs outer) [] H H' s.heap s'.heap/\HOk P w H' s'.heap/\bI v u/\Q v H'
def CR (CX:CXT) (outer:List Env) (P:Program) (w:World) (H:Hp) (s:Shared) (Q:VK) (E:XK) (r:Result) (s':Shared):Prop :=
 match r with
 | .ok (.ret u)=>CE outer P w H s Q u s'
 | .ok _=>False
 | .error e=>CX outer H s E e s'
structure FnOk (P:Program) (w:World) (K:PySem.W.Frag) (mg:Str->Option Value) (base:Heap) (CX:CXT) (k:Nat) (f:Addr) (fd:FuncData) (ps:List Str) (sp:Sp):Prop where
 len:∀ vs H Q E,sp vs H Q E->vs.length=ps.length
 run:∀ (A:Around) (outer:List Env) (s:Shared) (H:Hp) (args:Args) (us:List Value) (vs:List V) (Q:VK) (E:XK),Room k A->Env0 P w K mg base A outer s H->BindsTo s fd args (ps.zip us)->bB vs us->sp vs H Q E ->
  codeAny (model P w) A (.call (.ref f) args) (CR CX outer P w H s Q E) s
theorem FnOk.mono {P:Program} {w:World} {K:PySem.W.Frag} {mg:Str->Option Value} {base:Heap} {CX:CXT} {j k:Nat} {f:Addr} {fd:FuncData} {ps:List Str} {sp:Sp} (F:FnOk P w K mg base CX j f fd ps sp) (h:j<=k) :
  FnOk P w K mg base CX k f fd ps sp:=⟨F.len,fun A outer s H args us vs Q E hr=>F.run A outer s H args us vs Q E (hr.mono h)⟩
theorem FnOk.imp {P:Program} {w:World} {K:PySem.W.Frag} {mg:Str->Option Value} {base:Heap} {CX:CXT} {k:Nat} {f:Addr} {fd:FuncData} {ps:List Str} {sp sp':Sp} (F:FnOk P w K mg base CX k f fd ps sp)
  (h:∀ vs H Q E,sp' vs H Q E->sp vs H Q E):FnOk P w K mg base CX k f fd ps sp' :=
 ⟨fun vs H Q E q=>F.len vs H Q E (h _ _ _ _ q),fun A outer s H args us vs Q E hr he hb hv hs=>F.run A outer s H args us vs Q E hr he hb hv (h _ _ _ _ hs)⟩
theorem Env0.in1 {P:Program} {w:World} {K:PySem.W.Frag} {mg:Str->Option Value} {base:Heap} {A:Around} {outer:List Env} {s:Shared} {H:Hp} (e:Env0 P w K mg base A outer s H) :
  Env0 P w K mg base A.in1 outer s H:=⟨e.frames,e.mod,e.bs,e.bsz,e.funs,e.frf,e.hok,e.bare⟩
section
variable {X:Cx} {pins:List (Addr×Obj)} {σ:St} {H:Hp} {s s':Shared}
theorem Inv.env0 (I:Inv X pins σ H s):Env0 X.prog X.w X.K X.mg X.base X.A X.stack s H :=
 ⟨I.ok.frames,I.ok.mod,I.bs,At I.ok.bsz I.sz,I.stack,I.stkFree,I.hok,I.bare⟩
theorem Inv.after {Q:VK} {u:Value} (I:Inv X pins σ H s) (h:CE X.stack X.prog X.w H s Q u s'):EP X pins σ Q u s':=by
 obtain ⟨v,H',os,bare,un,hok,r,q⟩:=h
 obtain ⟨hh,g,d,t,os'⟩:=s'
 obtain rfl:os'=s.os:=os
 exact ⟨v,H',I.call (h':=hh) (g':=g) (d':=d) (t':=t) (ch:=[]) un hok bare (fun b z=>absurd z (by simp)),r,q⟩
end
def aEm (sp:Sp) (dvs:List V) (E:XK) (t:TA):TE:=fun σ H Q=>t σ H fun vs H1=>sp (vs++dvs) H1 Q E
def tH (K:PySem.W.Frag) (fd:FuncData) (ps:List Str) (ds:List Value):Prop :=
 ∀ (s:Shared) (us:List Value),K.In s.heap->(us++ds).length=ps.length->BindsTo s fd ⟨us,[]⟩ (ps.zip (us++ds))
theorem tH.all {K:PySem.W.Frag} {fd:FuncData} {ps:List Str} (h:∀ us:List Value,us.length=ps.length->bindArgs fd ⟨us,[]⟩=pure (ps.zip us)):tH K fd ps []:=fun s us _ hl=>by
 rw [Df] at hl ⊢
 exact .of_eq (h us hl)
def yT (CX:CXT) (X:Cx) (E:XK):Prop:=∀ (pins:List (Addr×Obj)) (σ:St) (H:Hp) (s:Shared) (e:Value) (s':Shared),Inv X pins σ H s->CX X.stack H s E e s'->X.xe e s'
section
variable {X:Cx} {CX:CXT} {k:Nat} {f C:Addr} {fd:FuncData} {ps:List Str} {sp:Sp} {dvs:List V} {ds:List Value} {E:XK} {x m:Str} {p pos apos:Pos} {e o:Expr} {es:List Expr} {ta:TE} {t:TA}
theorem aEN {pins:List (Addr×Obj)} {σ:St} {H:Hp} {s:Shared} {Q:VK} {us:List Value} {vs:List V} (F:FnOk X.prog X.w X.K X.mg X.base CX k f fd ps sp) (hr:Room k X.A) (hb:tH X.K fd ps ds) (hd:bB dvs ds) (hx:yT CX X E)
  (I:Inv X pins σ H s) (r:bB vs us) (h:sp (vs++dvs) H Q E):wpAny (model X.prog X.w) X.A (call (.ref f) us) (EP X pins σ Q) X.xe s:=by
 have r2:bB (vs++dvs) (us++ds):=r.append hd
 have hl:(us++ds).length=ps.length:=by rw [<- r2.length]; exact F.len _ _ _ _ h
 refine wpAny_call (codeAny_mono (F.run X.A X.stack s H ⟨us,[]⟩ (us++ds) (vs++dvs) Q E hr I.env0 (hb s us I.kIn hl) r2 h) fun r s' hq=>?_)
 cases r with
 | error e=>exact hx pins σ H s e s' I hq
 | ok fl =>
  cases fl with
  | ret u=>exact I.after hq
  | next=>exact False.elim hq
  | brk=>exact False.elim hq
  | cont=>exact False.elim hq
theorem aDy (F:FnOk X.prog X.w X.K X.mg X.base CX k f fd ps sp) (hr:Room k X.A) (hg:Gl X x) (hm:X.mg x=some (.ref f)) (hk:PySem.W.keepIn X.K (.ref f)=true) (hb:tH X.K fd ps ds) (hd:bB dvs ds) (hx:yT CX X E)
  (ha:PA X (e::es) t) (hdb:(x==("__debug__" : Str))=false:=by decide) (he:starEach (e::es) X.env=(false,eval e X.env)::starEach es X.env:=by rfl) (hpl:(backTo pos (starEach es X.env)).any (·.1)=false:=by rfl) :
  PE X (.Call (.Name x p) (e::es) [] pos) (aEm sp dvs E t):=by
 intro pins s σ H Q I h
 refine wpAny_Call_Name_kw (aAn I hg hm ?_ hdb)
 refine PySem.W.callWith_K (h₀:=X.base) I.ok.mod.kin hk (thn (ha pos pins s σ H _ I h) fun us s1 ⟨vs,H1,I1,r,q⟩=>⟨I1.kIn,?_⟩) he hpl
 exact aEN F hr hb hd hx I1 r q
structure Mk (K:PySem.W.Frag) (C f:Addr):Prop where
 makes:PySem.W.makesIn K C=true
 init:PySem.W.findIn K (.ref C) "__init__" = some (some (.ref f))
 fn:PySem.W.isFn K (.ref f)=true
 kp:PySem.W.keepIn K (.ref C)=true
end
def PK (X:Cx) (kws:List Keyword) (t:TA):Prop :=
 ∀ (pos:Pos) (pins:List (Addr×Obj)) (s:Shared) (σ:St) (H:Hp) (Q:List V->Hp->Prop),Inv X pins σ H s->t σ H Q->wpAny (model X.prog X.w) X.A (evalAll ((backToKw pos (keywordEach kws X.env)).map (·.2))) (AP X pins σ Q) X.xe s
section
variable {X:Cx} {CX:CXT} {k:Nat} {f C:Addr} {fd:FuncData} {ps ks:List Str} {sp:Sp} {E:XK} {x m:Str} {p pos apos kpos:Pos} {e o:Expr} {es:List Expr} {kws:List Keyword} {te ta:TE} {t tk:TA} {nm:Option Str}
theorem aEO:PK X [] aB5:=fun _ _ _ _ H Q I h=>wpAny_evalAll_nil ⟨[],H,I,.nil,h⟩
theorem aDz (ha:PE X e te) (hr:PK X kws t):PK X (⟨nm,e,kpos⟩::kws) (wM te t):=by
 intro pos pins s σ H Q I h
 show wpAny _ _ (evalAll ((do let v<-eval e X.env; standAt pos; pure v)::(backToKw pos (keywordEach kws X.env)).map (·.2))) _ _ s
 refine wpAny_evalAll_cons (wpAny_bind (thn (ha pins s σ H _ I h) fun u s1 ⟨x,H1,I1,r1,q1⟩=>wpAny_bind (wpAny_standAt (wpAny_pure ?_))))
 refine thn (hr pos pins s1 σ H1 _ I1 q1) fun us s2 hx9=>?_
 obtain ⟨xs,H2,I2,r2,q2⟩:=hx9
 exact ⟨x::xs,H2,I2,.cons r1 r2,q2⟩
structure KBinds (K:PySem.W.Frag) (fd:FuncData) (ps ks:List Str) (g:List Value->List Value->List Value) (gV:List V->List V->List V):Prop where
 to:∀ (s:Shared) (us ws:List Value),K.In s.heap->(g us ws).length=ps.length->BindsTo s fd ⟨us,ks.zip ws⟩ (ps.zip (g us ws))
 rel:∀ {vs:List V} {us:List Value} {zs:List V} {ws:List Value},bB vs us->bB zs ws->bB (gV vs zs) (g us ws)
variable {g:List Value->List Value->List Value} {gV:List V->List V->List V}
end
structure FnScope (N P:List Str) (sc:Scope):Prop where
 kind:sc.kind=.function
 co:sc.isCoroutine=false
 gen:sc.isGenerator=false
 nd:N.Nodup
 pre:N.take P.length=P
 par:∀ x∈P,sc.names.lookup x=some .local∨sc.names.lookup x=some .cell
 nofree:∀ y∈sc.names,y.2≠.free
theorem tI {kindOf:Str->Option NameKind} {x:Str}:∀ {binds:List (Str×Value)} {m:Str->Option Value},(∀ v,(x,v)∉binds)->bindL kindOf binds m x=m x
 | [],_,_=>rfl
 | (n,v)::r,m,h=>by
  unfold bindL
  rw [tI fun w hw=>h w (Av _ hw)]
  split
  ·have:x≠n:=by rintro rfl; exact h v Ao
   simp [this]
  ·rfl
theorem tJ {kindOf:Str->Option NameKind} {x:Str}:∀ {binds:List (Str×Value)} {m:Str->Option Value},(∀ v,(x,v)∉binds)->bindC kindOf binds m x=m x
 | [],_,_=>rfl
 | (n,v)::r,m,h=>by
  unfold bindC
  rw [tJ fun w hw=>h w (Av _ hw)]
  split
  ·rfl
  ·have:x≠n:=by rintro rfl; exact h v Ao
   simp [this]
theorem tK {kindOf:Str->Option NameKind} {x:Str} {v:Value}:∀ {P:List Str} {vs:List Value} {i:Nat} {m:Str->Option Value},P.Nodup->P[i]?=some x->vs[i]?=some v->kindOf x=some .local ->
  bindL kindOf (P.zip vs) m x=some v
 | [],_,_,_,_,h,_,_=>by simp at h
 | _::_,[],_,_,_,_,h,_=>by simp at h
 | p::P,w::vs,0,m,nd,h1,h2,hk=>by
  simp at h1 h2; subst h1; subst h2
  show bindL kindOf ((p,w)::P.zip vs) m p=_
  unfold bindL
  rw [tI fun v hv=>(Cu.mp nd).1 (Fu hv).1,if_pos hk]
  simp
 | p::P,w::vs,i+1,m,nd,h1,h2,hk=>by
  show bindL kindOf ((p,w)::P.zip vs) m x=_
  unfold bindL
  exact tK (i:=i) (Cu.mp nd).2 (by simpa using h1) (by simpa using h2) hk
theorem tL {kindOf:Str->Option NameKind} {x:Str} {v:Value}:∀ {P:List Str} {vs:List Value} {i:Nat} {m:Str->Option Value},P.Nodup->P[i]?=some x->vs[i]?=some v->kindOf x≠some .local ->
  bindC kindOf (P.zip vs) m x=some v
 | [],_,_,_,_,h,_,_=>by simp at h
 | _::_,[],_,_,_,_,h,_=>by simp at h
 | p::P,w::vs,0,m,nd,h1,h2,hk=>by
  simp at h1 h2; subst h1; subst h2
  show bindC kindOf ((p,w)::P.zip vs) m p=_
  unfold bindC
  rw [tJ fun v hv=>(Cu.mp nd).1 (Fu hv).1,if_neg hk]
  simp
 | p::P,w::vs,i+1,m,nd,h1,h2,hk=>by
  show bindC kindOf ((p,w)::P.zip vs) m x=_
  unfold bindC
  exact tL (i:=i) (Cu.mp nd).2 (by simpa using h1) (by simpa using h2) hk
def nB (N:List Str) (vs:List V):St:=vs.map some++List.replicate (N.length - vs.length) none
def yU (CX:CXT) (P:Program) (w:World) (K:PySem.W.Frag) (mg:Str->Option Value) (base:Heap) (N:List Str) (qual:Str) (scope:Scope) (f:Addr) (cd:Value) (A:Around) (outer:List Env) (s:Shared) (H:Hp) (E:XK):Cx where
 prog:=P
 w:=w
 K:=K
 mg:=mg
 base:=base
 A:=A.deeper (envOfC qual scope s.heap.objs.size f cd)
 N:=N
 s₀:=s
 H₀:=H
 env:=envOfC qual scope s.heap.objs.size f cd
 outer:=outer
 stack:=envOfC qual scope s.heap.objs.size f cd::outer
 ex:=[]
 calm:=true
 fn:=fun _=>true
 pn:=[]
 xe:=fun e s'=>wpAny (model P w) (A.deeper (envOfC qual scope s.heap.objs.size f cd)) (leaving (envOfC qual scope s.heap.objs.size f cd) e) (fun _ s''=>CX outer H s E e s'') (fun e' s''=>CX outer H s E e' s'') s'
theorem wN {sc:Scope} {n:Nat} {x:Str} (h:sc.names.lookup x=some .cell):∃ c,(cellsFrom n sc.names []).lookup x=some c:=by
 have q:=PySem.W.cellsFrom_some sc.names n [] (.inl h)
 exact Fg.mp q
theorem aBb {CX:CXT} {P:Program} {w:World} {K:PySem.W.Frag} {mg:Str->Option Value} {base:Heap} {N ps:List Str} {qual:Str} {scope:Scope} {f:Addr} {cd:Value} {A:Around} {outer:List Env} {s s1:Shared} {H:Hp} {E:XK} {us:List Value} {vs:List V}
  (S:FnScope N ps scope) (hd:A.handled=none) (e0:Env0 P w K mg base A outer s H) (hl:vs.length=ps.length) (r:bB vs us)
  (x:InCallC s s.heap.objs.size (bindL (envOfC qual scope s.heap.objs.size f cd).kindOf (ps.zip us) fun _=>none) (cellsFrom (s.heap.objs.size+1) scope.names []) (bindC (envOfC qual scope s.heap.objs.size f cd).kindOf (ps.zip us) fun _=>none) s1) :
  Inv (yU CX P w K mg base N qual scope f cd A outer s H E) [] (nB N vs) H s1:=by
 have hpl:ps.length<=N.length:=by have:=congrArg Fl S.pre; rw [Ax] at this; omega
 obtain ⟨h1,tk,rfl,hk⟩:=x.done
 have noA:∀ b:Addr,b∉(yU CX P w K mg base N qual scope f cd A outer s H E).ex:=fun b z=>absurd (show b∈([]:List Addr) from z) (by simp)
 refine ⟨⟨e0.mod,S.kind,rfl,rfl,Ai _,fun y z c h1 h2=>?_,fun y hy=>?_,fun y c _ h=>?_,fun _=>hd,Around.frames_deeper e0.frames,.inr ⟨rfl,rfl⟩,fun b z=>absurd z (noA b),e0.bs,e0.bsz,fun b _ _=>noA b,fun b z=>absurd z (noA b),e0.funs,e0.frf⟩,
  rfl,e0.bare,Un.kept hk,⟨_,x.toInCall.ns,fun i y v h1 h2 h3=>?_⟩,fun y c h=>⟨_,x.cell y c h⟩,e0.hok.fresh (Ai _),fun y c h=>?_,fun p hp=>absurd (show p∈([]:List (Addr×Obj)) from hp) (by simp),e0.hok.kept hk,?_⟩
 ·exact name_of_addr x.apart (PySem.mem_of_lookup h1) (PySem.mem_of_lookup h2)
 ·have hy:scope.names.lookup y=some .cell∨scope.names.lookup y=some .free:=hy
  rcases hy with hy | hy
  ·exact wN hy
  ·exact absurd rfl (S.nofree _ (PySem.mem_of_lookup hy))
 ·exact Ex (x.above y c (PySem.mem_of_lookup h))
 ·have hi:i < vs.length:=by
   unfold nB at h2
   by_cases hi:i < vs.length
   ·exact hi
   ·rw [Cc (by simpa using hi)] at h2
    rw [Bx] at h2
    split at h2 <;> cases h2
  have ha:vs[i]?=some v:=by
   unfold nB at h2
   rw [Bk (by simpa using hi),Af] at h2
   cases e:vs[i]? with
   | none=>rw [e] at h2; cases h2
   | some a=>rw [e] at h2; cases h2; rfl
  obtain ⟨u,hu,rv⟩:=r.get ha
  have hp:ps[i]?=some y:=by
   rw [<- S.pre,Fh (by omega)]; exact h1
  have ndP:ps.Nodup:=by rw [<- S.pre]; exact S.nd.sublist (List.take_sublist _ _)
  refine ⟨u,rv,?_⟩
  rcases S.par y (Ah hp) with k | k
  ·exact .inl ⟨k,tK ndP hp hu k⟩
  ·obtain ⟨c,e⟩:=wN (n:=s.heap.objs.size+1) k
   refine .inr ⟨.inl k,c,e,?_⟩
   have q:=x.cell y c e
   rw [tL ndP hp hu (by show scope.names.lookup y≠_; rw [k]; decide)] at q
   exact q
 ·exact e0.hok.fresh (Ex (x.above y c (PySem.mem_of_lookup h)))
 ·unfold nB
  show _=N.length
  rw [Aq,Ac,Bn]
  omega
theorem aEn {CX:CXT} {P:Program} {w:World} {K:PySem.W.Frag} {mg:Str->Option Value} {base:Heap} {k:Nat} {f:Addr} {name qual:Str} {params:Arguments} {body:List Stmt} {scope:Scope} {dV kV doc pm cdv ct oc:Value} {an od:Option Addr}
  {osl:Array (Option Value)} {N ps:List Str} {sp:Sp} (lk:K.lookup f=some ⟨oc,od,.func (PySem.W.fnOf name qual params body scope dV kV doc pm an cdv ct),osl⟩) (hcd:PySem.W.codeIn K cdv qual=true) (S:FnScope N ps scope)
  (len:∀ vs H Q E,sp vs H Q E->vs.length=ps.length)
  (hbody:∀ (A:Around) (outer:List Env) (s:Shared) (H:Hp) (vs:List V) (Q:VK) (E:XK),Room k (A.deeper (envOfC qual scope s.heap.objs.size f cdv))->sp vs H Q E ->
   ∃ t,PSs (yU CX P w K mg base N qual scope f cdv A outer s H E) body t/\t { nx:=fun _ H'=>Q .non H',rt:=Q } (nB N vs) H) :
  FnOk P w K mg base CX (k+1) f (PySem.W.fnOf name qual params body scope dV kV doc pm an cdv ct) ps sp:=by
 refine ⟨len,fun A outer s H args us vs Q E hr e0 hb r hsp=>?_⟩
 have hl:=len _ _ _ _ hsp
 have KX:K.In s.heap:=e0.mod.kin.keeps fun b o e=>(e0.bs b o e).1
 have lim:s.heap.NoLimit:=e0.mod.nolimit.keeps fun b o e=>(e0.bs b o e).1
 have hkind:∀ y∈ps.zip us,scope.names.lookup y.1=some .local∨(scope.names.lookup y.1=some .cell/\((cellsFrom (s.heap.objs.size+1) scope.names []).lookup y.1).isSome=true):=fun ⟨n,v⟩ hy=>by
  rcases S.par n (Fu hy).1 with q | q
  ·exact .inl q
  ·exact .inr ⟨q,PySem.W.cellsFrom_some _ _ _ (.inl q)⟩
 refine codeAny_call_function hr.depth (KX _ _ lk) rfl S.co S.gen rfl (PySem.W.codeRec_of KX hcd) (hb _ _ _ _ ?_)
 refine wpAny_newFunctionEnv_cells S.kind hkind fun env he s1 x=>?_
 subst he
 refine ⟨lim.keeps x.toInCall.keep,codeAny_func ?_⟩
 obtain ⟨t,ht,hq⟩:=hbody A outer s H vs Q E (hr.deeper _) hsp
 have I:Inv (yU CX P w K mg base N qual scope f cdv A outer s H E) [] (nB N vs) H s1:=aBb S hr.hd e0 hl r x
 refine wpAny_mono (ht [] s1 (nB N vs) H _ I hq) (fun fl s' hs=>?_) fun e s' hs=>hs
 have fin:∀ {σ':St} {H':Hp} {v:V} {u:Value},Inv (yU CX P w K mg base N qual scope f cdv A outer s H E) [] σ' H' s'->bI v u->Q v H'->CE outer P w H s Q u s' :=
  fun {σ' H' v u} J rv q=>⟨v,H',J.os,J.bare,J.base,J.hok,rv,q⟩
 cases fl with
 | ret u =>
  obtain ⟨v,σ',H',J,rv,q⟩:=hs
  exact fin J rv q
 | next =>
  obtain ⟨σ',H',J,q⟩:=hs
  exact fin (v:=V.non) (u:=Value.none) J rfl q
 | brk =>
  obtain ⟨_,_,_,q⟩:=hs
  exact False.elim q
 | cont =>
  obtain ⟨_,_,_,q⟩:=hs
  exact False.elim q
section
variable {X:Cx} {x:Str} {p pos:Pos} {e:Expr} {es:List Expr} {t:TA} {id T:String} {r:List V->Hp->VK->Prop}
def tCB (r:List V->Hp->VK->Prop) (t:TA):TE:=fun σ H Q=>t σ H fun vs H1=>r vs H1 Q
theorem aK (hc:eT X (.builtin id) r) (hg:Gl X x) (hm:X.mg x=none) (hv:bootBuiltins x=some (.builtin id)) (ha:PA X (e::es) t) (hn:x ≠ "__name__" := by decide) (hdb:(x==("__debug__" : Str))=false:=by decide)
  (he:starEach (e::es) X.env=(false,eval e X.env)::starEach es X.env:=by rfl) (hpl:(backTo pos (starEach es X.env)).any (·.1)=false:=by rfl):PE X (.Call (.Name x p) (e::es) [] pos) (tCB r t):=by
 intro pins s σ H Q I h
 refine wpAny_Call_Name_kw (iU I hg hm hv ?_ hn hdb)
 refine PyProof.Rows.callWith_builtin1 (thn (ha pos pins s σ H _ I h) fun us s1 hx9=>?_) he hpl
 obtain ⟨vs,H1,I1,r1,q1⟩:=hx9
 exact hc pins s1 σ H1 vs us Q I1 r1 q1
theorem bH (hc:eT X (.type T) r) (hg:Gl X x) (hm:X.mg x=none) (hv:bootBuiltins x=some (.type T)) (ha:PA X (e::es) t) (hn:x ≠ "__name__" := by decide) (hdb:(x==("__debug__" : Str))=false:=by decide)
  (he:starEach (e::es) X.env=(false,eval e X.env)::starEach es X.env:=by rfl) (hpl:(backTo pos (starEach es X.env)).any (·.1)=false:=by rfl):PE X (.Call (.Name x p) (e::es) [] pos) (tCB r t):=by
 intro pins s σ H Q I h
 refine wpAny_Call_Name_kw (iU I hg hm hv ?_ hn hdb)
 refine PyProof.Rows.callWith_type1 (thn (ha pos pins s σ H _ I h) fun us s1 hx9=>?_) he hpl
 obtain ⟨vs,H1,I1,r1,q1⟩:=hx9
 exact hc pins s1 σ H1 vs us Q I1 r1 q1
end
end L2
namespace HT
open PySem PyProof.Rows
section
open PySem.SeqAt
open PySem.AutoSeq1 (wpAny_loadPart')
open PySem.MeetsSeq PySem.MeetsSeq2 PySem.MeetsSeq3
end
section
variable {prog:Program} {w:World} {A:Around} {E:Value->Shared->Prop} {s:Shared}
theorem cat_tup {t b:Addr} {vs ws:List Value} {Q:Value->Shared->Prop} (ht:IsTup s.heap t vs.toArray) (hb:IsTup s.heap b ws.toArray) (hv:vs≠[])
  (h1:ws = []->Q (.ref t) s) (h2:ws≠[]->Q (.ref s.heap.objs.size) { s with heap:=s.heap.push { cls:=.type "tuple",data:=.seq (vs++ws).toArray } })
  (hsz:vs.length+ws.length<=sizeLine):wpAny (model prog w) A (binaryOp .Add (.ref t) (.ref b)) Q E s:=by
 obtain ⟨⟨cls,dd,data,sl⟩,ho,hc,n,hd⟩:=id ht
 obtain ⟨⟨cls2,dd2,data2,sl2⟩,ho2,hc2,n2,hd2⟩:=id hb
 simp only at hc hd hc2 hd2
 subst hc hd hc2 hd2
 have e:vs.toArray++ws.toArray=(vs++ws).toArray:=by simp
 by_cases hw:ws = []
 ·exact concat_meets ⟨_,ho,rfl⟩ ⟨_,ho2,rfl⟩ noFill_tuple_add seq_tuple_add PySem.F.slot_tuple_add PySem.F.entry_tuple_add (PySem.F.args_tuple_add_2 _ _)
   (tuple_addW1 t b vs.toArray ws.toArray n n2 dd dd2 sl sl2 (by simpa using hv) (by simp [hw])) ⟨ho,ho2,h1 hw⟩
 ·refine concat_meets ⟨_,ho,rfl⟩ ⟨_,ho2,rfl⟩ noFill_tuple_add seq_tuple_add PySem.F.slot_tuple_add PySem.F.entry_tuple_add (PySem.F.args_tuple_add_2 _ _)
   (tuple_addW2 t b vs.toArray ws.toArray n n2 dd dd2 sl sl2 (by simpa using hv) (by simpa using hw) (by rw [Aj,Aj]; exact hsz)) ⟨ho,ho2,?_⟩
  rw [e]
  exact h2 hw
def sIx (n d:Nat):Option Int->Nat
 | none=>d
 | some v=>if v < 0 then (v+(n:Int)).toNat else min v.toNat n
theorem sIx_none (n d:Nat):sIx n d none=d:=rfl
theorem sIx_nat (n d k:Nat):sIx n d (some (k:Int))=min k n:=by
 show (if (k:Int) < 0 then ((k:Int)+(n:Int)).toNat else min (k:Int).toNat n)=min k n
 rw [if_neg (by omega),Bh]
theorem aEP (n d:Nat) (hd:d<=n) (o:Option Int):sIx n d o<=n:=by
 cases o with
 | none=>exact hd
 | some v =>
  show (if v < 0 then (v+(n:Int)).toNat else min v.toNat n)<=n
  by_cases hv:v < 0
  ·rw [if_pos hv]; omega
  ·rw [if_neg hv]; exact Nat.min_le_right _ _
theorem aAs (v:Int) (n d:Nat):(if v < 0 then max (v+(n:Int)) 0 else min v (n:Int))=((sIx n d (some v):Nat):Int):=by
 show (if v < 0 then max (v+(n:Int)) 0 else min v (n:Int))=(((if v < 0 then (v+(n:Int)).toNat else min v.toNat n):Nat):Int)
 by_cases hv:v < 0
 ·simp only [if_pos hv]; omega
 ·simp only [if_neg hv]; omega
theorem yV (lo hi:Option Int) (n:Nat):Builtin.Slice.sliceAdjust lo hi 1 (n:Int)=(((sIx n 0 lo:Nat):Int),((sIx n n hi:Nat):Int)):=by
 have h1:¬ ((1:Int) < 0):=by omega
 unfold Builtin.Slice.sliceAdjust
 simp only [h1,if_false]
 refine Prod.ext ?_ ?_
 ·cases lo with
  | none=>rfl
  | some v=>exact aAs v n 0
 ·cases hi with
  | none=>rfl
  | some v=>exact aAs v n n
theorem yW (i j:Nat):Builtin.Slice.slicePlaces (i:Int) (j:Int) 1=j - i:=by
 unfold Builtin.Slice.slicePlaces
 have h1:(1:Int) > 0:=by omega
 simp only [h1,if_true,Int.ediv_one]
 split <;> omega
theorem qL {v:Value} {o:Option Int} {Q:Option Int->Shared->Prop} (p:IsPart v o) (h:Q o s):wpAny (model prog w) A (Builtin.Slice.slicePartIndex v) Q E s:=by
 cases p with
 | none=>exact slicePart_none h
 | int i t=>exact slicePart_int h
theorem sliceApplied_gen {sl:Addr} {vl vu:Value} {lo hi:Option Int} {n:Nat} {Q:Int×Int×Nat->Shared->Prop} (hs:s.heap.IsSliceOf sl vl vu .none) (pl:IsPart vl lo) (pu:IsPart vu hi)
  (h:Q (((sIx n 0 lo:Nat):Int),1,sIx n n hi - sIx n 0 lo) s):wpAny (model prog w) A (Builtin.Slice.sliceApplied (.ref sl) (pure (n:Int))) Q E s:=by
 obtain ⟨os,hos,hcs,hds⟩:=id hs
 unfold Builtin.Slice.sliceApplied Builtin.Slice.sliceFields
 refine wpAny_bind (wpAny_bind (wpAny_field hos hds (x:=vl) rfl (wpAny_bind (wpAny_field hos hds (x:=vu) rfl (wpAny_bind (wpAny_field hos hds (x:=.none) rfl (wpAny_pure ?_)))))))
 refine wpAny_bind (slicePart_none ?_)
 show wpAny _ _ (if ((1:Int)==0)=true then _ else _) _ _ s
 rw [if_neg (by decide)]
 refine wpAny_bind (qL pl (wpAny_bind (qL pu (wpAny_bind (wpAny_pure ?_)))))
 show wpAny _ _ (match Builtin.Slice.sliceAdjust lo hi 1 (n:Int) with | (lo,hi)=>pure (lo,(1:Int),Builtin.Slice.slicePlaces lo hi 1)) _ _ s
 rw [yV lo hi n]
 show wpAny _ _ (pure (((sIx n 0 lo:Nat):Int),(1:Int),Builtin.Slice.slicePlaces ((sIx n 0 lo:Nat):Int) ((sIx n n hi:Nat):Int) 1)) _ _ s
 rw [yW]
 exact wpAny_pure h
theorem pick_gen (xs:Array Value) (i k:Nat):((List.range k).filterMap fun (m:Nat)=>xs[((i:Int)+(m:Int)*1).toNat]?).toArray=((xs.toList.drop i).take k).toArray:=by
 have e:(fun (m:Nat)=>xs[((i:Int)+(m:Int)*1).toNat]?)=fun m=>xs[i+m]?:=by
  funext m
  have:((i:Int)+(m:Int)*1).toNat=i+m:=by omega
  rw [this]
 rw [e]
 have:=pick_run xs i k
 rw [Dq] at this
 have e2:((fun x=>xs[x]?) ∘ fun x=>i+x)=fun m=>xs[i+m]?:=rfl
 rw [e2] at this
 rw [this]
theorem getItem_tuple_cut {t sl:Addr} {items:Array Value} {vl vu:Value} {lo hi:Option Int} {Q:Value->Shared->Prop} (ht:IsTup s.heap t items) (hs:s.heap.IsSliceOf sl vl vu .none) (pl:IsPart vl lo) (pu:IsPart vu hi)
  (hw:¬ (sIx items.size 0 lo=0/\sIx items.size items.size hi=items.size))
  (h:Q (.ref s.heap.objs.size) { s with heap:=s.heap.push { cls:=.type "tuple",data:=.seq ((items.toList.drop (sIx items.size 0 lo)).take (sIx items.size items.size hi - sIx items.size 0 lo)).toArray } })
  (hsz:items.size<=sizeLine):wpAny (model prog w) A (getItem (.ref t) (.ref sl)) Q E s:=by
 have htake:sizeOk (.seq ((items.toList.drop (sIx items.size 0 lo)).take (sIx items.size items.size hi - sIx items.size 0 lo)).toArray):=by
  show ((items.toList.drop (sIx items.size 0 lo)).take (sIx items.size items.size hi - sIx items.size 0 lo)).toArray.size<=sizeLine
  rw [Aj,Ax,Cn,Array.length_toList]
  omega
 have hj:sIx items.size items.size hi<=items.size:=aEP _ _ (Ai _) hi
 obtain ⟨os,hos,hcs,hds⟩:=id hs
 have hTs:s.TypeIs (.ref sl) "slice" := ⟨os,hos,hcs⟩
 unfold getItem
 try with_reducible refine wpAny_holding ?_
 first | refine wpAny_bind (wpAny_pure ?_) | skip
 refine wpAny_bind (wpAny_sequenceKey ht.typeIs (by decide) ?_)
 refine wpAny_bind (wpAny_callSpecial?_slot (name:=Str.ofString "__getitem__") ht.typeIs PyProof.Rows.slot_tuple_getitem
  (wpAny_call_entry PyProof.Rows.slot_tuple_getitem ht.typeIs entry_tuple_getitem ?_ (args_tuple_getitem _ _)))
 show wpAny _ _ (Builtin.Tuple.tupleItemsOf (.ref t) >>= _) _ _ s
 refine wpAny_bind (tupleItemsOf_ ht ?_)
 refine wpAny_bind (wpAny_typeOf hTs ?_)
 rw [if_pos (by decide)]
 refine wpAny_bind (sliceApplied_gen hs pl pu ?_)
 have hno:¬ ((((sIx items.size 0 lo:Nat):Int)==0 && (1:Int)==1 && (sIx items.size items.size hi - sIx items.size 0 lo)==items.size)=true):=by
  intro q
  rw [Az,Az] at q
  have q1:((sIx items.size 0 lo:Nat):Int)=0:=eq_of_beq q.1.1
  have q2:sIx items.size items.size hi - sIx items.size 0 lo=items.size:=eq_of_beq q.2
  exact hw ⟨by omega,by omega⟩
 show wpAny _ _ (if (((sIx items.size 0 lo:Nat):Int)==0 && (1:Int)==1 && (sIx items.size items.size hi - sIx items.size 0 lo)==items.size)=true then _ else _) _ _ s
 rw [if_neg hno,pick_gen]
 first
  | exact wpAny_bind (m:=Builtin.Tuple.tupleExact _) (wpAny_newObj_type (wpAny_pure ⟨_,rfl,wpAny_pure h⟩) htake)
  | exact wpAny_bind (m:=Builtin.Tuple.tupleExact _) (wpAny_newObj_type (wpAny_bind (wpAny_pure (wpAny_pure ⟨_,rfl,wpAny_pure h⟩))) htake)
  | exact wpAny_bind (wpAny_bind (m:=Builtin.Tuple.tupleExact _) (wpAny_newObj_type (wpAny_pure (wpAny_pure ⟨_,rfl,wpAny_pure h⟩)) htake))
  | exact wpAny_bind (wpAny_bind (m:=Builtin.Tuple.tupleExact _) (wpAny_newObj_type (wpAny_pure ⟨_,rfl,wpAny_pure h⟩) htake))
end
end HT
namespace L2
open PySem PySem.Spec PyProof.Rows
abbrev TO:=St->Hp->(Option Int->Hp->Prop)->Prop
def PO (X:Cx) (e:Option Expr) (t:TO):Prop :=
 ∀ (pins:List (Addr×Obj)) (s:Shared) (σ:St) (H:Hp) (Q:Option Int->Hp->Prop),Inv X pins σ H s->t σ H Q ->
  wpAny (model X.prog X.w) X.A (evalPart e X.env) (fun u s'=>∃ o H',Inv X pins σ H' s'/\IsPart u o/\Q o H') X.xe s
def aDA:TO:=fun _ H Q=>Q none H
def aFC (t:TE):TO:=fun σ H Q=>t σ H fun x H1=>∃ i,x=.int i/\Q (some i) H1
theorem jN {ns:List Int}:∀ {us:List Value},bB (ns.map V.int) us->IntsAre us ns:=by
 induction ns with
 | nil=>intro us r; rw [Ey] at r; cases r; exact .nil
 | cons n ns ih =>
  intro us r
  rw [Ba] at r
  cases r with
  | cons r1 r2 =>
   obtain ⟨t,e⟩:=r1
   subst e
   exact .cons n t (ih r2)
section
variable {X:Cx} {e:Expr} {te:TE} {lo hi:Option Expr} {tl th:TO} {pos p2:Pos}
theorem nC:PO X none aDA:=by
 intro pins s σ H Q I h
 rw [evalPart_none]
 exact wpAny_pure ⟨none,H,I,.none,h⟩
theorem nD (h:PE X e te):PO X (some e) (aFC te):=by
 intro pins s σ H Q I hw
 rw [evalPart_some]
 refine thn (h pins s σ H _ I hw) fun u s1 hx9=>?_
 obtain ⟨x,H1,I1,r1,q1⟩:=hx9
 obtain ⟨i,rfl,q⟩:=q1
 obtain ⟨t,rfl⟩:=r1
 exact ⟨some i,H1,I1,.int i t,q⟩
def SlR (X:Cx) (r:V->Option Int->Option Int->Hp->VK->Prop):Prop :=
 ∀ (pins:List (Addr×Obj)) (s:Shared) (σ:St) (H:Hp) (x:V) (v vl vu:Value) (lo hi:Option Int) (sl:Addr) (Q:VK),Inv X pins σ H s->bI x v->s.heap.IsSliceOf sl vl vu .none->IsPart vl lo->IsPart vu hi->r x lo hi H Q ->
  ∃ T id,typeLookup (.type T) "__getitem__" = pure (some (.builtin id))/\s.TypeIs v T/\wpAny (model X.prog X.w) X.A (getItem v (.ref sl)) (EP X pins σ Q) X.xe s
def tSl (r:V->Option Int->Option Int->Hp->VK->Prop) (te:TE) (tl th:TO):TE:=fun σ H Q=>te σ H fun x H1=>tl σ H1 fun l H2=>th σ H2 fun u H3=>r x l u H3 Q
theorem kF {r:V->Option Int->Option Int->Hp->VK->Prop} (hr:SlR X r) (he:PE X e te) (hl:PO X lo tl) (hu:PO X hi th):PE X (.Subscript e (.Slice lo hi none p2) pos) (tSl r te tl th):=by
 intro pins s σ H Q I h
 refine Subscript_ (thn (he pins s σ H _ I h) fun v s1 hx9=>?_)
 obtain ⟨x,H1,I1,r1,q1⟩:=hx9
 refine wpAny_Slice (thn (hl pins s1 σ H1 _ I1 q1) fun vl s2 ⟨l,H2,I2,pl,q2⟩=>thn (hu pins s2 σ H2 _ I2 q2) fun vu s3 hx9=>?_)
 obtain ⟨u,H3,I3,pu,q3⟩:=hx9
 rw [evalPart_none]
 refine wpAny_pure ?_
 have I4:Inv X pins σ H3 { s3 with heap:=s3.heap.push { cls:=.type "slice",data:=.fields #[vl,vu,.none] } }:=I3.kept (t':=s3.toks) fun b ob q=>Aa _ q
 obtain ⟨T,id,hT,ht,hg⟩:=hr pins { s3 with heap:=s3.heap.push { cls:=.type "slice",data:=.fields #[vl,vu,.none] } } σ H3 x v vl vu l u s3.heap.objs.size Q I4 r1 (Heap.IsSliceOf.new ..) pl pu q3
 show wpAny (model X.prog X.w) X.A (subscriptTail e (.Slice lo hi none p2) v (.ref s3.heap.objs.size)) (EP X pins σ Q) X.xe { s3 with heap:=s3.heap.push { cls:=.type "slice",data:=.fields #[vl,vu,.none] } }
 exact tail_any (ops:=[.ref s3.heap.objs.size,v]) ht hT hg (by with_unfolding_all rfl)
def mJ (xs:List V) (lo hi:Option Int):List V:=(xs.drop (HT.sIx xs.length 0 lo)).take (HT.sIx xs.length xs.length hi - HT.sIx xs.length 0 lo)
theorem oY (xs:List V) (lo hi:Option Int):(mJ xs lo hi).length<=xs.length:=by
 unfold mJ
 rw [Ax,Cn]
 exact At (Nat.min_le_right _ _) (Nat.sub_le _ _)
def aGd (K:PySem.W.Frag):V->Option Int->Option Int->Hp->VK->Prop:=fun x lo hi H Q=>∃ a xs,x=.ref a/\SqT K H a xs /\
 ¬ (HT.sIx xs.length 0 lo=0/\HT.sIx xs.length xs.length hi=xs.length)/\∀ p,H p=none->Q (.ref p) (upd H p (.tup (mJ xs lo hi)))
theorem aEQ:SlR X (aGd X.K):=by
 intro pins s σ H x v vl vu lo hi sl Q I rx hs pl pu h
 obtain ⟨a,xs,rfl,hx,hw,q⟩:=h
 cases rx
 obtain ⟨its,r,ht,hz⟩:=I.tuple hx
 have hlen:its.toArray.size=xs.length:=by rw [Aj]; exact r.length.symm
 refine ⟨"tuple",_,PyProof.Rows.slot_tuple_getitem.lookup,ht.typeIs,?_⟩
 refine HT.getItem_tuple_cut ht hs pl pu (by rw [hlen]; exact hw) ?_ (by rw [hlen]; exact hz)
 rw [hlen]
 refine ⟨.ref s.heap.objs.size,_,I.laid (t':=s.toks) (o:=.tup (mJ xs lo hi)) (fun b ob q=>Aa _ q) (Ai _) ?_,rfl,q _ (I.hok.fresh (Ai _))⟩
 exact ⟨At (oY xs lo hi) hz,_,0,(r.drop (HT.sIx xs.length 0 lo)).take (HT.sIx xs.length xs.length hi - HT.sIx xs.length 0 lo),Ag _ rfl⟩
def aFD (K:PySem.W.Frag):R2:=fun x y H Q=>∃ a b xs ys,x=.ref a/\y=.ref b/\SqT K H a xs/\SqT K H b ys/\xs≠[]/\xs.length+ys.length<=sizeLine /\
 (ys = []->Q (.ref a) H)/\(ys≠[]->∀ p,H p=none->Q (.ref p) (upd H p (.tup (xs++ys))))
theorem bB.nil_iff {xs:List V} {us:List Value} (r:bB xs us):us = []↔xs = []:=by
 cases r with
 | nil=>simp
 | cons _ _=>simp
theorem aDB:OpR X (binaryOp .Add) (aFD X.K):=by
 intro pins s σ H x y v u Q I rx ry h
 obtain ⟨a,b,xs,ys,rfl,rfl,ha,hb,hx,hz,q1,q2⟩:=h
 cases rx
 cases ry
 obtain ⟨its,r1,p1,_⟩:=I.tuple ha
 obtain ⟨its2,r2,p2,_⟩:=I.tuple hb
 refine HT.cat_tup p1 p2 (fun z=>hx (r1.nil_iff.mp z)) (fun z=>⟨.ref a,H,I,rfl,q1 (r2.nil_iff.mp z)⟩) (fun z=>?_) (by rw [<- r1.length,<- r2.length]; exact hz)
 refine ⟨.ref s.heap.objs.size,_,I.laid (t':=s.toks) (o:=.tup (xs++ys)) (fun b ob q=>Aa _ q) (Ai _) ?_,rfl,q2 (fun w=>z (r2.nil_iff.mpr w)) _ (I.hok.fresh (Ai _))⟩
 exact ⟨by rw [Aq]; exact hz,_,0,r1.append r2,Ag _ rfl⟩
end
def ixN (n:Nat) (i:Int):Option Nat:=if 0<=i then (if i < n then some i.toNat else none) else if -(n:Int)<=i then some (i+n).toNat else none
def atI {α:Type} (xs:List α) (i:Int):Option α:=(ixN xs.length i).bind fun j=>xs[j]?
theorem aAt {n:Nat} {i:Int} {j:Nat} (h:ixN n i=some j):seqIndex? i n=some j/\j < n/\-(n:Int)<=i/\i < n:=by
 unfold ixN at h
 by_cases h0:0<=i
 ·rw [if_pos h0] at h
  by_cases h1:i < n
  ·rw [if_pos h1] at h
   have e:i.toNat=j:=Option.some.inj h
   exact ⟨by rw [seqIndex_of h0 h1,e],by omega,by omega,h1⟩
  ·rw [if_neg h1] at h; cases h
 ·rw [if_neg h0] at h
  by_cases h1:-(n:Int)<=i
  ·rw [if_pos h1] at h
   have e:(i+n).toNat=j:=Option.some.inj h
   exact ⟨by rw [seqIndex_neg (by omega) h1,e],by omega,h1,by omega⟩
  ·rw [if_neg h1] at h; cases h
theorem aAu {α:Type} {xs:List α} {i:Int} {v:α} (h:atI xs i=some v):∃ j,seqIndex? i xs.length=some j/\xs[j]?=some v/\j < xs.length/\-(xs.length:Int)<=i/\i < xs.length:=by
 unfold atI at h
 cases e:ixN xs.length i with
 | none=>rw [e] at h; cases h
 | some j =>
  rw [e] at h
  obtain ⟨h1,h2,h3,h4⟩:=aAt e
  exact ⟨j,h1,h,h2,h3,h4⟩
theorem dJ {α:Type} {xs:List α} {j:Nat} {v:α} (h:xs[j]?=some v):atI xs (j:Int)=some v:=by
 have hj:j < xs.length:=(Ad.mp h).1
 have e:ixN xs.length (j:Int)=some j:=by
  unfold ixN
  rw [if_pos (by omega),if_pos (by omega)]; simp
 unfold atI; rw [e]; exact h
def aDC (b:Expr):Prop:=∀ o i,subscripted b false o i=operate [o,i] (getItem o i)
def IxR (X:Cx) (r:R2):Prop :=
 ∀ (value slice:Expr) (pins:List (Addr×Obj)) (s:Shared) (σ:St) (H:Hp) (x y:V) (v u:Value) (Q:VK),Inv X pins σ H s->bI x v->bI y u->r x y H Q ->
  subscripted slice false v u=operate [v,u] (getItem v u)->wpAny (model X.prog X.w) X.A (subscriptTail value slice v u) (EP X pins σ Q) X.xe s
def MtR (X:Cx) (id:String) (r:V->List V->Hp->VK->Prop):Prop :=
 ∀ (pins:List (Addr×Obj)) (s:Shared) (σ:St) (H:Hp) (x:V) (xs:List V) (v:Value) (us:List Value) (Q:VK),Inv X pins σ H s->bI x v->bB xs us->r x xs H Q ->
  wpAny (model X.prog X.w) X.A (call (.builtin id) (v::us)) (EP X pins σ Q) X.xe s
section
variable {X:Cx} {a b:Expr} {ta tb:TE} {pos:Pos}
theorem bA {r:R2} (hr:IxR X r) (ha:PE X a ta) (hb:PE X b tb) (hs:aDC b):PE X (.Subscript a b pos) (tOp r ta tb):=by
 intro pins s σ H Q I h
 exact Subscript_ (aEJ ha hb I h fun v u s2 x y H2 I2 rx ry q=>hr a b pins s2 σ H2 x y v u Q I2 rx ry q (hs _ _))
def aGe (K:PySem.W.Frag):R2:=fun x y H Q=>∃ p xs i v,x=.ref p/\y=.int i/\SqL K H p xs/\atI xs i=some v/\Q v H
def aFE (K:PySem.W.Frag):R2:=fun x y H Q=>∃ p xs i v,x=.ref p/\y=.int i/\SqT K H p xs/\atI xs i=some v/\Q v H
theorem cI:IxR X (aGe X.K):=by
 intro value slice pins s σ H x y v u Q I rx ry h hs
 obtain ⟨p,xs,i,z,rfl,rfl,hq,he,q⟩:=h
 cases rx
 obtain ⟨t,rfl⟩:=ry
 obtain ⟨its,r,pl,hz⟩:=I.list hq
 obtain ⟨j,h1,h2,h3,h4,h5⟩:=aAu he
 obtain ⟨w,ew,rw'⟩:=r.get h2
 have hl:=r.length
 have hn:=qK
 have fin:EP X pins σ Q w s:=⟨z,H,I,rw',q⟩
 by_cases h0:0<=i
 ·have hj:i.toNat=j:=by
   rw [seqIndex_of h0 h5] at h1
   exact Option.some.inj h1
  exact item_listR pl.isList h0 (by omega) (by rw [hj]; simpa using ew) fin hs
 ·have hj:(i+(its.toArray.size:Int)).toNat=j:=by
   rw [seqIndex_neg (by omega) h4] at h1
   rw [Aj,<- hl]
   exact Option.some.inj h1
  exact subscriptTail_builtinR (x:=w) pl.isList.typeIs slot_list_getitem.lookup
   (wpAny_getItem_list_neg (Q:=fun r s'=>r=w/\EP X pins σ Q r s') pl.isList (by omega) (by rw [Aj] <;> omega) (by omega) (by rw [hj]; simpa using ew) ⟨rfl,fin⟩) hs
theorem bK:IxR X (aFE X.K):=by
 intro value slice pins s σ H x y v u Q I rx ry h hs
 obtain ⟨p,xs,i,z,rfl,rfl,hq,he,q⟩:=h
 cases rx
 obtain ⟨t,rfl⟩:=ry
 obtain ⟨its,r,pl,hz⟩:=I.tuple hq
 obtain ⟨j,h1,h2,h3,h4,h5⟩:=aAu he
 obtain ⟨w,ew,rw'⟩:=r.get h2
 have hl:=r.length
 have hn:=qK
 have fin:EP X pins σ Q w s:=⟨z,H,I,rw',q⟩
 exact subscriptTail_builtinR (x:=w) pl.typeIs slot_tuple_getitem.lookup
  (getItem_tuple (j:=j) (Q:=fun r s'=>r=w/\EP X pins σ Q r s') pl (by omega) (by omega) (by rw [Aj,<- hl]; exact h1) (by simpa using ew) ⟨rfl,fin⟩) hs
theorem yX (its:List Value) (n j:Nat) (u:Value):Obj.mapSeq (·.setIfInBounds j u) { cls:=.type "list",data:=.seq its.toArray n }={ cls:=.type "list",data:=.seq (its.set j u).toArray n }:=by
 simp [Obj.mapSeq]
theorem Inv.lst {pins:List (Addr×Obj)} {σ:St} {H:Hp} {s:Shared} {p:Addr} {xs:List V} (I:Inv X pins σ H s) (h:H p=some (.lst xs)) :
  ∃ (its:List Value) (n:Nat),bB xs its/\s.heap.get? p=some { cls:=.type "list",data:=.seq its.toArray n }/\xs.length<=sizeLine:=by
 obtain ⟨z,its,n,r,e⟩:=I.hok p _ h
 exact ⟨its,n,r,e,z⟩
theorem Inv.lstUpd {pins:List (Addr×Obj)} {σ:St} {H:Hp} {s:Shared} {p:Addr} {xs ys:List V} {its its':List Value} {n n':Nat} {f:Obj->Obj} (I:Inv X pins σ H s) (h:H p=some (.lst xs))
  (ho:s.heap.get? p=some { cls:=.type "list",data:=.seq its.toArray n }) (hf:f { cls:=.type "list",data:=.seq its.toArray n }={ cls:=.type "list",data:=.seq its'.toArray n' }) (r:bB ys its') (hz:ys.length<=sizeLine) (t:Nat) :
  Inv X pins σ (upd H p (.lst ys)) { s with heap:=s.heap.update p f,toks:=t }:=by
 have e:(s.heap.update p f).get? p=some { cls:=.type "list",data:=.seq its'.toArray n' }:=by
  rw [Bs f ho (by rw [hf] <;> rfl),hf]
 refine I.write (x:=p) (e:=p) (by rw [h]; trivial) (.inl rfl) (fun b u hb q=>(Aw _ _ (Ne.symm hb)).trans q) ⟨_,e⟩ ?_
 exact ⟨hz,its',n',r,e⟩
def aFF:V->V->V->Hp->(Hp->Prop)->Prop:=fun o i v H Q=>∃ p xs k j,o=.ref p/\i=.int k/\H p=some (.lst xs)/\ixN xs.length k=some j/\Q (upd H p (.lst (xs.set j v)))
theorem jA:aFt X aFF:=by
 intro pins s σ H o i v ov iv u Q I ro ri rv h
 obtain ⟨p,xs,k,j,rfl,rfl,hp,hj,q⟩:=h
 cases ro
 obtain ⟨t,rfl⟩:=ri
 obtain ⟨its,n,r,ho,hz⟩:=I.lst hp
 obtain ⟨h1,h2,h3,h4⟩:=aAt hj
 have hl:=r.length
 have hn:=qK
 have I':Inv X pins σ (upd H p (.lst (xs.set j v))) { s with heap:=s.heap.update p (Obj.mapSeq (·.setIfInBounds j u)) } :=
  I.lstUpd hp ho (yX its n j u) (r.set rv j) (by rw [Cp]; exact hz) s.toks
 by_cases h0:0<=k
 ·have hk:k.toNat=j:=by
   rw [seqIndex_of h0 h4] at h1
   exact Option.some.inj h1
  exact PySem.W.ki_setAt ho h0 (by omega) (by rw [Aj,<- hl]; exact h4) (by rw [hk]; exact ⟨_,I',q⟩)
 ·have hk:(k+(its.toArray.size:Int)).toNat=j:=by
   rw [seqIndex_neg (by omega) h3] at h1
   rw [Aj,<- hl]
   exact Option.some.inj h1
  exact PySem.W.ki_setBack ho (by omega) (by rw [Aj,<- hl]; exact h3) (by omega) (by rw [hk]; exact ⟨_,I',q⟩)
theorem uT (lo hi:Option Int) (n:Nat):(sliceBounds lo hi none n).1=((HT.sIx n 0 lo:Nat):Int)/\(sliceBounds lo hi none n).2.1=((HT.sIx n n hi:Nat):Int)/\(sliceBounds lo hi none n).2.2=1:=by
 refine ⟨?_,?_,rfl⟩
 ·cases lo with
  | none=>simp [sliceBounds,HT.sIx]
  | some i =>
   simp only [sliceBounds,HT.sIx,Gz,show (1:Int) > 0 by decide,if_true]
   by_cases h:i < 0
   ·simp only [h,if_true] <;> omega
   ·simp only [h,if_false] <;> omega
 ·cases hi with
  | none=>simp [sliceBounds,HT.sIx]
  | some i =>
   simp only [sliceBounds,HT.sIx,Gz,show (1:Int) > 0 by decide,if_true]
   by_cases h:i < 0
   ·simp only [h,if_true] <;> omega
   ·simp only [h,if_false] <;> omega
theorem sM (its:List Value) (lo hi:Option Int):slicePick its.toArray lo hi none=((its.drop (HT.sIx its.length 0 lo)).take (HT.sIx its.length its.length hi - HT.sIx its.length 0 lo)).toArray:=by
 obtain ⟨h1,h2,h3⟩:=uT lo hi its.toArray.size
 unfold slicePick
 rw [h1,h2,h3]
 simp only [sliceRange_one,pick_run,Aj] <;> rfl
def aGf (K:PySem.W.Frag):V->Option Int->Option Int->Hp->VK->Prop:=fun x lo hi H Q=>∃ a xs,x=.ref a/\SqL K H a xs/\∀ p,H p=none->Q (.ref p) (upd H p (.lst (mJ xs lo hi)))
theorem aDD:SlR X (aGf X.K):=by
 intro pins s σ H x v vl vu lo hi sl Q I rx hs pl pu h
 obtain ⟨a,xs,rfl,hx,q⟩:=h
 cases rx
 obtain ⟨its,r,ht,hz⟩:=I.list hx
 have hlen:=r.length
 refine ⟨"list",_,slot_list_getitem.lookup,ht.isList.typeIs,?_⟩
 refine wpAny_getItem_list_slice ht.isList hs pl pu .none (by simp) ?_ (by rw [Aj] <;> omega)
 rw [sM,<- hlen]
 refine ⟨.ref s.heap.objs.size,_,I.laid (t':=s.toks) (o:=.lst (mJ xs lo hi)) (fun b ob q=>Aa _ q) (Ai _) ?_,rfl,q _ (I.hok.fresh (Ai _))⟩
 exact ⟨At (oY xs lo hi) hz,_,0,(r.drop (HT.sIx xs.length 0 lo)).take (HT.sIx xs.length xs.length hi - HT.sIx xs.length 0 lo),Ag _ rfl⟩
def nE:V->Bool
 | .non=>true
 | .bl _=>true
 | .int _=>true
 | .str _=>true
 | _=>false
def eqV:V->V->Bool
 | .non,.non=>true
 | .bl a,.bl b=>a==b
 | .bl a,.int b=>(if a then 1 else 0)==b
 | .int a,.bl b=>a==(if b then 1 else 0)
 | .int a,.int b=>a==b
 | .str a,.str b=>a==b
 | _,_=>false
theorem aER {A:Around} {s:Shared} {y x:V} {u v:Value} (ry:bI y u) (rx:bI x v) (fy:nE y=true) (fx:nE x=true):SeqAt.EqAt A s u v (eqV y x):=by
 cases y with
 | non =>
  cases ry
  cases x with
  | non=>cases rx; exact SeqAt.EqAt.same _
  | bl b=>cases rx; exact SeqAt.EqAt.none_bool b
  | int b=>obtain ⟨t,rfl⟩:=rx; exact SeqAt.EqAt.none_int b t
  | str b=>obtain ⟨t,rfl⟩:=rx; exact SeqAt.EqAt.none_str b t
  | _=>exact absurd (show false=true from fx) Ar
 | bl a =>
  cases ry
  cases x with
  | non=>cases rx; exact SeqAt.EqAt.bool_none a
  | bl b=>cases rx; exact SeqAt.EqAt.bool_bool a b
  | int b=>obtain ⟨t,rfl⟩:=rx; exact SeqAt.EqAt.bool_int a b t
  | str b=>obtain ⟨t,rfl⟩:=rx; exact SeqAt.EqAt.bool_str a b t
  | _=>exact absurd (show false=true from fx) Ar
 | int a =>
  obtain ⟨t',rfl⟩:=ry
  cases x with
  | non=>cases rx; exact SeqAt.EqAt.int_none a t'
  | bl b=>cases rx; exact SeqAt.EqAt.int_bool a t' b
  | int b=>obtain ⟨t,rfl⟩:=rx; exact SeqAt.EqAt.int_int a t' b t
  | str b=>obtain ⟨t,rfl⟩:=rx; exact SeqAt.EqAt.int_str a t' b t
  | _=>exact absurd (show false=true from fx) Ar
 | str a =>
  obtain ⟨t',rfl⟩:=ry
  cases x with
  | non=>cases rx; exact SeqAt.EqAt.str_none a t'
  | bl b=>cases rx; exact SeqAt.EqAt.str_bool a t' b
  | int b=>obtain ⟨t,rfl⟩:=rx; exact SeqAt.EqAt.str_int a t' b t
  | str b=>obtain ⟨t,rfl⟩:=rx; exact SeqAt.EqAt.str_str a t' b t
  | _=>exact absurd (show false=true from fx) Ar
 | _=>exact absurd (show false=true from fy) Ar
def eqU (x:V) (u:Value):Bool:=match u with
 | .none=>eqV .non x
 | .bool b=>eqV (.bl b) x
 | .int i _=>eqV (.int i) x
 | .str z _=>eqV (.str z) x
 | _=>false
theorem aB6 {x y:V} {u:Value} (r:bI y u) (f:nE y=true):eqU x u=eqV y x:=by
 cases y with
 | non=>cases r; rfl
 | bl b=>cases r; rfl
 | int i=>obtain ⟨t,rfl⟩:=r; rfl
 | str z=>obtain ⟨t,rfl⟩:=r; rfl
 | _=>exact absurd (show false=true from f) Ar
theorem pR {x:V}:∀ {xs:List V} {us:List Value},bB xs us->xs.all nE=true->us.any (eqU x)=xs.any fun y=>eqV y x
 := by
 intro xs us h
 induction h with
 | nil=>intro _; rfl
 | cons r t ih =>
  intro f
  rw [Gp,Az] at f
  rw [Er,Er,aB6 r f.1,ih f.2]
theorem kG {A:Around} {s:Shared} {x:V} {v:Value} (rx:bI x v) (fx:nE x=true):∀ {xs:List V} {us:List Value},bB xs us->xs.all nE=true->∀ u∈us,SeqAt.EqAt A s u v (eqU x u)
 | _,_,.nil,_=>fun u hu=>by cases hu
 | y::xs,u::us,.cons r t,f=>fun u' hu=>by
  rw [Gp,Az] at f
  rcases Am.mp hu with rfl | hu
  ·rw [aB6 r f.1]; exact aER r rx f.1 fx
  ·exact kG rx fx t f.2 u' hu
def inV (x:V) (xs:List V):Bool:=xs.any fun y=>eqV y x
def rIn (K:PySem.W.Frag) (neg:Bool):R2:=fun x y H Q=>∃ p xs,y=.ref p/\(SqL K H p xs∨SqT K H p xs)/\nE x=true/\xs.all nE=true/\Q (.bl (if neg then !inV x xs else inV x xs)) H
theorem lE:OpR X (compareOp .In) (rIn X.K false):=by
 intro pins s σ H x y v u Q I rx ry h
 obtain ⟨p,xs,rfl,hq,fx,fs,q⟩:=h
 cases ry
 rcases hq with hq | hq
 ·obtain ⟨its,r,pl,hz⟩:=I.list hq
  refine SeqAt.in_listAt (eqU x) pl.isList (fun w hw=>kG rx fx r fs w (by simpa using hw)) ⟨.bl _,H,I,rfl,?_⟩
  rw [show its.toArray.any (eqU x)=its.any (eqU x) by simp,pR r fs]
  exact q
 ·obtain ⟨its,r,pl,hz⟩:=I.tuple hq
  refine SeqAt.in_tupleAt (eqU x) pl (fun w hw=>kG rx fx r fs w (by simpa using hw)) ⟨.bl _,H,I,rfl,?_⟩
  rw [show its.toArray.any (eqU x)=its.any (eqU x) by simp,pR r fs]
  exact q
theorem nF:OpR X (compareOp .NotIn) (rIn X.K true):=by
 intro pins s σ H x y v u Q I rx ry h
 obtain ⟨p,xs,rfl,hq,fx,fs,q⟩:=h
 cases ry
 rcases hq with hq | hq
 ·obtain ⟨its,r,pl,hz⟩:=I.list hq
  refine SeqAt.notIn_listAt (eqU x) pl.isList (fun w hw=>kG rx fx r fs w (by simpa using hw)) ⟨.bl _,H,I,rfl,?_⟩
  rw [show its.toArray.any (eqU x)=its.any (eqU x) by simp,pR r fs]
  exact q
 ·obtain ⟨its,r,pl,hz⟩:=I.tuple hq
  refine SeqAt.notIn_tupleAt (eqU x) pl (fun w hw=>kG rx fx r fs w (by simpa using hw)) ⟨.bl _,H,I,rfl,?_⟩
  rw [show its.toArray.any (eqU x)=its.any (eqU x) by simp,pR r fs]
  exact q
theorem aM:eT X (.builtin "len") (fun xs H Q=>∃ p ys,xs = [.ref p]/\(SqL X.K H p ys∨SqT X.K H p ys)/\Q (.int ys.length) H):=by
 intro pins s σ H xs us Q I r h
 obtain ⟨p,ys,rfl,hq,q⟩:=h
 obtain ⟨u,rfl,rx⟩:=eN r
 cases rx
 have hn:=qK
 rcases hq with hq | hq
 ·obtain ⟨its,r',pl,hz⟩:=I.list hq
  have hlen:=r'.length
  exact Calls.call_len_list pl.isList (by simp only [Aj] <;> omega) ⟨.int ys.length,H,I.tok _,⟨s.toks+1,by rw [Aj,hlen]⟩,q⟩
 ·obtain ⟨its,r',pl,hz⟩:=I.tuple hq
  have hlen:=r'.length
  exact len_tuple pl (by simp only [Aj] <;> omega) ⟨.int ys.length,H,I.tok _,⟨s.toks+1,by rw [Aj,hlen]⟩,q⟩
theorem jO:eT X (.type "list") (fun xs H Q=>∃ p ys,xs = [.ref p]/\(SqL X.K H p ys∨SqT X.K H p ys)/\∀ l,H l=none->Q (.ref l) (upd H l (.lst ys))):=by
 intro pins s σ H xs us Q I r h
 obtain ⟨p,ys,rfl,hq,q⟩:=h
 obtain ⟨u,rfl,rx⟩:=eN r
 cases rx
 have fin:∀ (its:List Value),bB ys its->ys.length<=sizeLine->∀ (h':Heap) (c':Nat),(∀ b o',s.heap.get? b=some o'->h'.get? b=some o') ->
   h'.get? s.heap.objs.size=some { cls:=.type "list",dict:=none,data:=.seq its.toArray c',slots:=#[] }->EP X pins σ Q (.ref s.heap.objs.size) { s with heap:=h' }:=fun its r' hz h' c' kp e =>
  ⟨.ref s.heap.objs.size,_,I.laid (t':=s.toks) kp (Ai _) (show bR X.prog X.w _ h' _ (.lst ys) from ⟨hz,its,c',r',e⟩),rfl,q _ (I.hok.fresh (Ai _))⟩
 rcases hq with hq | hq
 ·obtain ⟨its,r',pl,hz⟩:=I.list hq
  have hlen:=r'.length
  obtain ⟨o,ho,hc,n,hd⟩:=pl.isList
  exact call_list_seq p (.inl rfl) ho hc hd (fun h' c' kp e=>fin its r' hz h' c' kp e) (by simp only [Aj] <;> omega)
 ·obtain ⟨its,r',pl,hz⟩:=I.tuple hq
  have hlen:=r'.length
  obtain ⟨o,ho,hc,n,hd⟩:=pl
  exact call_list_seq p (.inr rfl) ho hc hd (fun h' c' kp e=>fin its r' hz h' c' kp e) (by simp only [Aj] <;> omega)
theorem bM:eT X (.type "tuple") (fun xs H Q=>∃ p ys,xs = [.ref p]/\((SqL X.K H p ys/\∀ l,H l=none->Q (.ref l) (upd H l (.tup ys)))∨(SqT X.K H p ys/\Q (.ref p) H))):=by
 intro pins s σ H xs us Q I r h
 obtain ⟨p,ys,rfl,h⟩:=h
 obtain ⟨u,rfl,rx⟩:=eN r
 cases rx
 rcases h with ⟨hq,q⟩ | ⟨hq,q⟩
 ·obtain ⟨its,r',pl,hz⟩:=I.list hq
  have hlen:=r'.length
  refine call_tuple_list pl.isList (fun h' kp=>?_) (by simp only [Aj] <;> omega)
  have I1:Inv X pins σ H { s with heap:=h' }:=I.kept (t':=s.toks) kp
  have I2:Inv X pins σ (upd H h'.objs.size (.tup ys)) { s with heap:=h'.push { cls:=.type "tuple",data:=.seq its.toArray } } :=
   I1.laid (t':=s.toks) (fun b o e=>Aa _ e) (Ai _) (show bR X.prog X.w _ _ _ (.tup ys) from ⟨hz,its,0,r',Ag _ rfl⟩)
  exact ⟨.ref h'.objs.size,_,I2,rfl,q _ (I1.hok.fresh (Ai _))⟩
 ·obtain ⟨its,r',pl,hz⟩:=I.tuple hq
  exact call_tuple_same pl ⟨.ref p,H,I,rfl,q⟩
def tyV (K:PySem.W.Frag) (T:String) (x:V) (H:Hp):Prop:=match x with
 | .str _=>T = "str"
 | .int _=>T = "int"
 | .ref p => (T = "list" /\ ∃ xs, SqL K H p xs) ∨ (T = "tuple" /\ ∃ xs, SqT K H p xs) ∨
     (T = "dict" /\ ((∃ kvs,H p=some (.dK kvs))∨∃ kvs,H p=some (.dT kvs)))∨(T = "set" /\ ∃ S n,H p=some (.set S n))
 | _=>False
theorem aES {pins:List (Addr×Obj)} {σ:St} {H:Hp} {s:Shared} {T:String} {x:V} {v:Value} (I:Inv X pins σ H s) (r:bI x v) (ty:tyV X.K T x H) :
  s.TypeIs v T/\∀ a,v=.ref a->∃ ob,s.heap.get? a=some ob/\ob.dict=none:=by
 cases x with
 | str z =>
  obtain ⟨t,rfl⟩:=r
  cases (show T = "str" from ty)
  exact ⟨typeIs_str s z t,fun _ e=>nomatch e⟩
 | int i =>
  obtain ⟨t,rfl⟩:=r
  cases (show T = "int" from ty)
  exact ⟨typeIs_int s i t,fun _ e=>nomatch e⟩
 | ref p =>
  cases r
  rcases ty with ⟨rfl,xs,hq⟩ | ⟨rfl,xs,hq⟩ | ⟨rfl,hk⟩ | ⟨rfl,S,n,hk⟩
  ·obtain ⟨its,_,pl,_⟩:=I.list hq
   refine ⟨pl.isList.typeIs,fun a e=>?_⟩
   cases e
   obtain ⟨o,n,e,c,hd,_⟩:=pl
   exact ⟨o,e,hd⟩
  ·obtain ⟨o,e,hc,hd⟩:∃ o,s.heap.get? p=some o/\o.cls=.type "tuple" /\ o.dict=none:=by
    rcases hq with hq | ⟨o,_,_,hk,hc,hd,_⟩
    ·obtain ⟨_,its,n,_,e⟩:=hq.ok I.hok
     exact ⟨_,e,rfl,rfl⟩
    ·exact ⟨o,I.kIn p o hk,hc,hd⟩
   refine ⟨⟨o,e,hc⟩,fun a e2=>?_⟩
   cases e2
   exact ⟨o,e,hd⟩
  ·have z:∃ o,s.heap.get? p=some o/\o.ExactDict:=by
    rcases hk with ⟨kvs,hk⟩ | ⟨kvs,hk⟩
    ·obtain ⟨_,_,_,_,o,_,_,e,ex,_⟩:=I.hok p _ hk
     exact ⟨o,e,ex⟩
    ·obtain ⟨_,_,_,_,o,_,_,e,ex,_⟩:=I.hok p _ hk
     exact ⟨o,e,ex⟩
   obtain ⟨o,e,ex⟩:=z
   refine ⟨⟨o,e,ex.1⟩,fun a e2=>?_⟩
   cases e2
   exact ⟨o,e,ex.2.1⟩
  ·obtain ⟨o,_,_,_,e,ex,_⟩:=I.hok p _ hk
   refine ⟨⟨o,e,ex.1⟩,fun a e2=>?_⟩
   cases e2
   exact ⟨o,e,ex.2.1⟩
 | _=>exact False.elim ty
def tBM (K:PySem.W.Frag) (T:String) (r:V->List V->Hp->VK->Prop) (to:TE) (t:TA):TE:=fun σ H Q=>to σ H fun x H1=>tyV K T x H1/\t σ H1 fun xs H2=>r x xs H2 Q
variable {o e:Expr} {es:List Expr} {to:TE} {t:TA} {name:Str} {apos cpos:Pos} {T id:String} {r:V->List V->Hp->VK->Prop}
theorem oZ (pa:PlainAttrs T) (slot:Slot T name id) (hty:typeOf (.builtin id)=pure (.type "method_descriptor")) (hm:MtR X id r) (ho:PE X o to) (ha:PA X (e::es) t)
  (hbase:attributeBase o name X.env (eval o X.env)=eval o X.env:=by rfl)
  (hfew:((backTo cpos (starEach (e::es) X.env)).all (fun x=>!x.1) && (backToKw cpos (keywordEach [] X.env)).all (fun x=>x.1.isSome)
   && decide ((e::es).length+([]:List Keyword).length+(if ([]:List Keyword).isEmpty then 0 else 1) < 30))=true:=by rfl)
  (hline:(apos.endLine==cpos.line)=true:=by rfl) (hs:starEach (e::es) X.env=(false,eval e X.env)::starEach es X.env:=by rfl) (hplain:(backTo cpos (starEach es X.env)).any (·.1)=false:=by rfl) :
  PE X (.Call (.Attribute o name apos) (e::es) [] cpos) (tBM X.K T r to t):=by
 intro pins s σ H Q I h
 refine wpAny_Call_method_late hbase hfew hline rfl (thn (ho pins s σ H _ I h) fun v s1 hx9=>?_)
 obtain ⟨x,H1,I1,r1,ty,q1⟩:=hx9
 obtain ⟨h1,h2⟩:=aES I1 r1 ty
 refine ⟨T,id,pa,slot,hty,h1,h2,?_⟩
 have hA:=ha cpos pins s1 σ H1 _ I1 q1
 rw [hs] at hA ⊢
 refine Calls.callWith_builtin (by show (false || (backTo cpos (starEach es X.env)).any (·.1))=false; rw [hplain] <;> rfl) (Calls.evalArgs_plain ?_)
 refine thn hA fun us s2 hx9=>?_
 obtain ⟨vs,H2,I2,r2,q2⟩:=hx9
 exact hm pins s2 σ H2 x vs v us Q I2 r1 r2 q2
/- xs.append(e),list.index on a module's tuple .. are MtR facts of 06m -/
end
def MtM (X:Cx) (id:String) (r:V->List V->Hp->VK->Prop):Prop :=
 ∀ (pins:List (Addr×Obj)) (s:Shared) (σ:St) (H:Hp) (x:V) (xs:List V) (v:Value) (us:List Value) (Q:VK),Inv X pins σ H s->bI x v->bB xs us->r x xs H Q ->
  wpAny (model X.prog X.w) X.A (call (.builtin id) (v::us)) (EP X pins σ Q) X.xe s
theorem bB.one {x:V} {us:List Value} (r:bB [x] us):∃ u,us = [u]/\bI x u:=eN r
theorem bB.two {x y:V} {us:List Value} (r:bB [x,y] us):∃ u v,us = [u,v]/\bI x u/\bI y v:=mZ r
theorem bB.zero:∀ {us:List Value},bB [] us->us = []
 | _,.nil=>rfl
theorem bB.eraseIdx:∀ {xs:List V} {us:List Value} (i:Nat),bB xs us->bB (xs.eraseIdx i) (us.eraseIdx i)
 | _,_,_,.nil=>.nil
 | _,_,0,.cons _ t=>t
 | _,_,i+1,.cons r t=>.cons r (bB.eraseIdx i t)
theorem bB.reverse {xs:List V} {us:List Value} (h:bB xs us):bB xs.reverse us.reverse:=by
 induction h with
 | nil=>exact .nil
 | cons r t ih=>rw [List.reverse_cons,List.reverse_cons]; exact bB.append ih (.cons r .nil)
theorem bB.rep {xs:List V} {us:List Value} (h:bB xs us):∀ k:Nat,bB (List.replicate k xs).flatten (List.replicate k us).flatten
 | 0=>.nil
 | k+1=>by
  rw [Dl,Dl,Ek,Ek]
  exact bB.append h (bB.rep h k)
theorem tM {α:Type}:∀ (l:List α) (i:Nat),(l.eraseIdx i).length<=l.length
 | [],_=>Ai _
 | _::_,0=>Gm _
 | _::r,i+1=>Cs (tM r i)
theorem lF (its:List Value):∀ (k:Nat) (acc:List Value),
  List.foldl (fun x1 x2=>x1++x2) acc.toArray (List.replicate k its.toArray)=(acc++(List.replicate k its).flatten).toArray
 | 0,acc=>by simp
 | k+1,acc=>by
  have e:acc.toArray++its.toArray=(acc++its).toArray:=by simp
  have e2:(acc++its)++(List.replicate k its).flatten=acc++(List.replicate (k+1) its).flatten:=by
   rw [Dl,Ek,El]
  rw [<- e2,<- lF its k (acc++its),<- e,Dl,List.foldl_cons]
section
variable {X:Cx} {pins:List (Addr×Obj)} {σ:St} {H:Hp} {s:Shared} {l b:Addr} {xs ys zs:List V}
theorem Inv.lset {its its':List Value} {n:Nat} {f:Array Value->Array Value} {t':Nat} (I:Inv X pins σ H s) (hH:H l=some (.lst xs))
  (e:s.heap.get? l=some { cls:=.type "list",data:=.seq its.toArray n }) (hf:f its.toArray=its'.toArray) (hv:bB ys its') (hz:ys.length<=sizeLine) :
  Inv X pins σ (upd H l (.lst ys)) { s with heap:=s.heap.update l (Obj.mapSeq f),toks:=t' }:=by
 have q:=PySem.IsL.update e f
 rw [hf] at q
 refine I.write (x:=l) (e:=l) (by rw [hH]; exact trivial) (.inl rfl) (fun b' u hb hu=>(Aw s.heap (Obj.mapSeq f) (Ne.symm hb)).trans hu) ⟨_,q⟩ ?_
 exact ⟨hz,its',_,hv,q⟩
theorem Inv.lnew {its:List Value} {t':Nat} (I:Inv X pins σ H s) (hv:bB ys its) (hz:ys.length<=sizeLine) :
  Inv X pins σ (upd H s.heap.objs.size (.lst ys)) { s with heap:=s.heap.push { cls:=.type "list",data:=.seq its.toArray },toks:=t' } :=
 I.laid (fun _ _ q=>Aa _ q) (Ai _) ⟨hz,its,0,hv,Ag _ rfl⟩
theorem Inv.fresh (I:Inv X pins σ H s):H s.heap.objs.size=none:=I.hok.fresh (Ai _)
theorem Inv.lstM (I:Inv X pins σ H s) (hH:H l=some (.lst xs)):xs.length<=sizeLine/\∃ (its:List Value) (n:Nat),bB xs its/\xs.length=its.length/\s.heap.get? l=some { cls:=.type "list",data:=.seq its.toArray n }:=by
 obtain ⟨z,its,n,r,e⟩:=I.hok l _ hH
 exact ⟨z,its,n,r,r.length,e⟩
theorem aB7 {n:Nat} (h:n<=sizeLine):Builtin.List.listTooLong n=false:=by
 unfold Builtin.List.listTooLong
 exact decide_eq_false (by omega)
end
section
variable {X:Cx}
def aDE:V->List V->Hp->VK->Prop:=fun x vs H Q=>∃ l xs y,x=.ref l/\vs = [y]/\H l=some (.lst xs)/\xs.length < sizeLine/\Q .non (upd H l (.lst (xs++[y])))
theorem hX:MtM X "list.append" aDE:=by
 intro pins s σ H x vs v us Q I rx rv h
 obtain ⟨l,xs,y,rfl,rfl,hH,hz,q⟩:=h
 cases rx
 obtain ⟨u,rfl,ru⟩:=rv.one
 obtain ⟨z,its,n,r,hl,e⟩:=I.lstM hH
 refine call_meets F.slot_list_append ⟨_,e,rfl⟩ F.entry_list_append (F.args_list_append_2 _ _) (PySem.list_append l its.toArray n u (by rw [Aj]; omega)) ⟨e,?_⟩
 refine ⟨.non,_,I.lset (its':=its++[u]) hH e (by simp) (r.append (.cons ru .nil)) ?_,rfl,q⟩
 rw [Aq,List.length_singleton]
 omega
def aET:V->List V->Hp->VK->Prop:=fun x vs H Q=>∃ l xs i k y,x=.ref l/\vs = [.int i]/\H l=some (.lst xs)/\-(2^63)<=i/\i < 2^63/\seqIndex? i xs.length=some k/\xs[k]?=some y/\Q y (upd H l (.lst (xs.eraseIdx k)))
theorem aB8:MtM X "list.pop" aET:=by
 intro pins s σ H x vs v us Q I rx rv h
 obtain ⟨l,xs,i,k,y,rfl,rfl,hH,h1,h2,hk,hy,q⟩:=h
 cases rx
 obtain ⟨u,rfl,ru⟩:=rv.one
 obtain ⟨t,rfl⟩:=ru
 obtain ⟨z,its,n,r,hl,e⟩:=I.lstM hH
 obtain ⟨w,hw,rw'⟩:=r.get hy
 refine call_meets F.slot_list_pop ⟨_,e,rfl⟩ F.entry_list_pop (F.args_list_pop_2 _ _)
  (MeetsSeq.list_pop_at l its.toArray n i t k w (fitsIndex_both h1 h2) (by rw [Aj,<- hl]; exact hk) (by rw [<- Array.getElem?_toList]; exact hw) (by rw [Aj]; omega)) ⟨e,?_⟩
 refine ⟨y,_,I.lset (its':=its.eraseIdx k) hH e ?_ (r.eraseIdx k) ?_,rw',q⟩
 ·show its.toArray.eraseIdxIfInBounds k=(its.eraseIdx k).toArray
  rw [List.eraseIdxIfInBounds_toArray]
 ·have:=tM xs k
  omega
def aGg:R2:=fun x y H Q=>∃ l b xs zs,x=.ref l/\y=.ref b/\H l=some (.lst xs)/\H b=some (.lst zs)/\xs.length+zs.length<=sizeLine/\∀ p,H p=none->Q (.ref p) (upd H p (.lst (xs++zs)))
theorem aEU:OpR X (binaryOp .Add) aGg:=by
 intro pins s σ H x y v u Q I rx ry h
 obtain ⟨l,b,xs,zs,rfl,rfl,hH,hB,hz,q⟩:=h
 cases rx
 cases ry
 obtain ⟨z,its,n,r,hl,e⟩:=I.lstM hH
 obtain ⟨z2,its2,n2,r2,hl2,e2⟩:=I.lstM hB
 refine PySem.P.add_list e e2 ?_ (by rw [Aj,Aj]; omega)
 have ea:its.toArray++its2.toArray=(its++its2).toArray:=by simp
 rw [ea]
 exact ⟨.ref _,_,I.lnew (t':=s.toks) (r.append r2) (by rw [Aq]; omega),rfl,q _ I.fresh⟩
def aGh:R2:=fun x y H Q=>∃ l k xs,x=.ref l/\y=.int k/\H l=some (.lst xs)/\-(2^63)<=k/\k < 2^63/\xs.length*k.toNat<=sizeLine /\
 ∀ p,H p=none->Q (.ref p) (upd H p (.lst (List.replicate k.toNat xs).flatten))
theorem uU {α:Type} (xs:List α) (k:Nat):(List.replicate k xs).flatten.length=k*xs.length:=by
 induction k with
 | zero=>simp
 | succ k ih=>rw [Dl,Ek,Aq,ih,Nat.succ_mul,Nat.add_comm]
theorem aEV:OpR X (binaryOp .Mult) aGh:=by
 intro pins s σ H x y v u Q I rx ry h
 obtain ⟨l,k,xs,rfl,rfl,hH,h1,h2,hz,q⟩:=h
 cases rx
 obtain ⟨t,rfl⟩:=ry
 obtain ⟨z,its,n,r,hl,e⟩:=I.lstM hH
 have hlen:its.toArray.size*k.toNat<=sizeLine:=by rw [Aj,<- hl]; exact hz
 have hcap:¬ its.toArray.size*k.toNat > (2^63 - 1) / 8:=by
  have:(sizeLine:Nat)<=(2^63 - 1) / 8:=by decide
  omega
 have hfit:¬ (!Builtin.List.listFitsIndex k)=true:=by
  rw [fitsIndex_both h1 h2]
  exact Ar
 have hlong:¬ Builtin.List.listTooLong (its.toArray.size*k.toNat)=true:=by
  rw [aB7 hlen]
  exact Ar
 have hnew:List.foldl (fun x1 x2=>x1++x2) #[] (List.replicate (if its.toArray.isEmpty=true then 0 else k.toNat) its.toArray)=(List.replicate k.toNat its).flatten.toArray:=by
  have f0:∀ m:Nat,List.foldl (fun x1 x2=>x1++x2) #[] (List.replicate m its.toArray)=(List.replicate m its).flatten.toArray:=fun m=>by
   have:=lF its m []
   rw [Dr] at this
   exact this
  rw [f0]
  cases its with
  | nil=>simp
  | cons a r'=>rw [if_neg (by simp)]
 refine wpAny_binaryOp_repeat_ref (T := "list") (U := "int") (by decide) ⟨_,e,rfl⟩ (fun s'=>typeIs_int s' k t) noFill_list_mul F.fills_int_mul F.slot_int_rmul repeat_list F.slot_int_index.lookup
  (call_meets F.slot_int_rmul (typeIs_int s k t) F.entry_int_rmul (F.args_int_rmul_2 _ _) (int___rmul___int_list k t l its.toArray n)
   ⟨e,rfl,⟨_,e,rfl⟩,call_meets F.slot_list_mul ⟨_,e,rfl⟩ F.entry_list_mul (F.args_list_mul_2 _ _) (AutoListH.list___mul___list_int_3 l its.toArray n k t hfit hcap hlong) ⟨e,?_⟩⟩)
 rw [hnew]
 exact ⟨.ref _,_,I.lnew (t':=s.toks) (r.rep k.toNat) (by rw [uU,Nat.mul_comm]; exact hz),rfl,q _ I.fresh⟩
end
section
variable {prog:Program} {w:World} {A:Around} {E:Value->Shared->Prop} {s:Shared}
end
section
variable {X:Cx}
end
end L2
namespace Att
open PySem PySem.W PySem.Calls PyProof.Rows
theorem pL {P:Params} {h:Heap}:∀ (ns:List Int) (vs:List Value),WellAll P h vs (ns.map WData.int)->IntsAre vs ns:=by
 intro ns
 induction ns with
 | nil =>
  intro vs w
  rw [Ey] at w
  cases w
  exact .nil
 | cons n ns ih =>
  intro vs w
  rw [Ba] at w
  cases w with
  | cons a b =>
   cases a
   exact .cons _ _ (ih _ b)
theorem aBc {l:OpenLaw} {n:Nat} (hn:l.most=some n) {P:Params} {h:Heap} {args:List WData} {vals:List Value}
  (hpre:l.row.toRowW.claim.pre args=true) (hwl:WellAll P h vals args) :
  ∃ a vs ns,vals = [Value.ref a]/\args = [WData.list (ns.map WData.int)]/\h.get? a=some { cls:=.type "list",data:=.seq vs.toArray }/\IntsAre vs ns/\ns.length<=n:=by
 have hsh:WShape.hasAll [] args [.list .int]=true:=(pre_splitW hpre).1
 have hc:l.pre.holds [] { args:=args }=true:=(pre_splitW hpre).2
 obtain ⟨d,r,rfl,h1,h2⟩:=hasAllW_cons hsh
 obtain rfl:=hasAllW_nil h2
 obtain ⟨xs,rfl,h3⟩:=hasW_list h1
 obtain ⟨ns,rfl⟩:=items_int h3
 have hlen:ns.length<=n:=by
  unfold OpenLaw.pre at hc
  have h4:(WTm.not (.lt (.lit (.int (n:Int))) (.len (.arg 0)))).holds [] { args:=[.list (ns.map .int)] }=true:=by
   have h4:=(holds_andW hc).1
   rw [hn] at h4
   exact h4
  have h5:=condW_of h4 (w_not (w_lt w_lit (w_len_list (w_arg rfl))))
  rw [Ac] at h5
  refine Nat.le_of_not_lt fun q=>?_
  have q':(n:Int) < ((ns.length:Nat):Int):=by omega
  first
   | (rw [decide_eq_true q'] at h5; exact absurd h5 (by decide))
   | (simp at h5; omega)
 cases hwl with
 | cons w1 w2 =>
  cases w2
  cases w1 with
  | list ho hall=>exact ⟨_,_,ns,rfl,rfl,ho,pL ns _ hall,hlen⟩
theorem aBd (l:OpenLaw) (args:List WData):l.row.toRowW.claim.post args (.bool true) args=true :=
 postW_of (r:=l.row.toRowW) (X:=(true==true))
  (show WShape.has [] (.bool true) .bool=true by first | rfl | decide | simp [WShape.has,WShape.arms,WShape.armsAll])
  (show (WTm.eq .res (.lit (.bool true))).value [] { args:=args,res:=some (.bool true),after:=args }=some (.bool (true==true)) from w_eq_bool (w_res rfl) w_lit) rfl
theorem attach_call {l:OpenLaw} {n:Nat} {q:Program} {loose:List Str} {XP:(Str->Option Value)->Heap->Prop} {YP:World->Heap->Prop} {d:DefRec}
  (hn:l.most=some n) (hdf:d.params.defaults = [])
  (call:∀ (w:World) (s₀ s₁:Shared) (mg mb:Str->Option Value) (fa:Addr) (o:Obj) (pm cd doc:Value) (a:Addr) (vs:List Value) (ns:List Int),
   Ground q loose [] XP w s₀ mg mb s₁.heap->YP w s₁.heap ->
   s₁.heap.get? fa=some o->o.data=.func (docDef d.name d.params d.body d.scope pm cd doc)->s₁.heap.CodeRec cd d.name->mg d.name=some (.ref fa) ->
   s₁.heap.get? a=some { cls:=.type "list",data:=.seq vs.toArray }->IntsAre vs ns->ns.length<=n->s₁.gens = #[] ->
   codeAny (model l.prog w) callerA (.call (.ref fa) ⟨[.ref a],[]⟩) (fun r s'=>r=.ok (.ret (.bool true))/\OldK s₁.heap s'.heap/\s'.os=s₁.os/\AllBare s'.gens) s₁) :
  WalkO q loose XP YP l.row.toRowW d [] (fun f vs=>PySem.call f vs):=by
 intro w s₀ s₁ mg mb G Y fa o pm cd doc dV kV ho hd hcd hD hmg hg args vals as hpre hlay hrd hwl hlo
 obtain rfl:dV=.none:=Dflts.none hD hdf
 obtain rfl:kV=.none:=Dflts.noKw hD
 obtain ⟨a,vs,ns,rfl,rfl,hobj,hints,hlen⟩:=aBc hn hpre hwl
 refine enter_call (codeAny_mono (call w s₀ s₁ mg mb fa o pm cd doc a vs ns G Y ho (fd_plain hd) hcd hmg hobj hints hlen hg) fun r s' hq=>?_)
 obtain ⟨rfl,h2,h3,h4⟩:=hq
 exact ⟨.inl ⟨.bool true,.bool true,[],rfl,fun _=>rfl,.bool true,aBd l _,fun _=>⟨List.Pairwise.nil,fun _ hm=>(nomatch hm)⟩⟩,h2,h3,h4⟩
section
variable {prog:Program} {w:World} {A:Around} {E:Value->Shared->Prop} {s:Shared} {K:Frag}
end
end Att
namespace L2
open PySem PySem.Spec PyProof.Rows
theorem jB:∀ {vs:List Value} {ns:List Int},IntsAre vs ns->bB (ns.map V.int) vs
 := by
 intro vs ns h
 induction h with
 | nil=>exact .nil
 | cons n t h ih=>exact .cons ⟨t,rfl⟩ ih
def iO (s:Stmt):Arguments:=match s with
 | .FunctionDef _ a _ _ _ _ _ _ _ _=>a
 | _=>{ posonlyargs:=[],args:=[],vararg:=none,kwonlyargs:=[],kw_defaults:=[],kwarg:=none,defaults:=[] }
def gK (s:Stmt):List Stmt:=match s with
 | .FunctionDef _ _ b _ _ _ _ _ _ _=>b
 | _=>[]
def aH (s:Stmt):Scope:=match s with
 | .FunctionDef _ _ _ _ _ _ sc _ _ _=>sc
 | _=>{ kind:=.function,names:=[],isGenerator:=false,isCoroutine:=false }
abbrev CX0:CXT:=fun _ _ _ _ _ _=>False
abbrev E0:XK:=fun _ _ _=>False
theorem aFG {X:Cx}:yT CX0 X E0:=fun _ _ _ _ _ _ _ h=>h.elim
structure Fun (K:PySem.W.Frag) (x qual:Str) (st:Stmt) (f:Addr) (fd:FuncData):Prop where
 ex:∃ (oc:Value) (od:Option Addr) (kV doc pm:Value) (an:Option Addr) (cdv ct:Value) (osl:Array (Option Value)),
  fd=PySem.W.fnOf x qual (iO st) (gK st) (aH st) .none kV doc pm an cdv ct/\K.lookup f=some ⟨oc,od,.func fd,osl⟩/\PySem.W.codeIn K cdv qual=true
 kp:PySem.W.keepIn K (.ref f)=true
section
variable {P:Program} {w:World} {K:PySem.W.Frag} {mg:Str->Option Value} {base:Heap}
theorem Fun.ok {x qual:Str} {st:Stmt} {f:Addr} {fd:FuncData} {N ps:List Str} {k:Nat} {sp:Sp} (F:Fun K x qual st f fd) (S:FnScope N ps (aH st)) (len:∀ vs H Q E,sp vs H Q E->vs.length=ps.length)
  (hbody:∀ (cdv:Value) (A:Around) (outer:List Env) (s:Shared) (H:Hp) (vs:List V) (Q:VK) (E:XK),Room k (A.deeper (envOfC qual (aH st) s.heap.objs.size f cdv))->sp vs H Q E ->
   ∃ t,PSs (yU CX0 P w K mg base N qual (aH st) f cdv A outer s H E).nox (gK st) t/\t { nx:=fun _ H'=>Q .non H',rt:=Q } (nB N vs) H):FnOk P w K mg base CX0 (k+1) f fd ps sp:=by
 obtain ⟨oc,od,kV,doc,pm,an,cdv,ct,osl,rfl,lk,hcd⟩:=F.ex
 refine aEn lk hcd S len fun A outer s H vs Q E hr hsp=>?_
 obtain ⟨t,h,q⟩:=hbody cdv A outer s H vs Q E hr hsp
 exact ⟨t,h.nox,q⟩
theorem Fun.binds {x qual:Str} {st:Stmt} {f:Addr} {fd:FuncData} {ps:List Str} (F:Fun K x qual st f fd)
  (h:∀ (kV doc pm:Value) (an:Option Addr) (cdv ct:Value) (us:List Value),us.length=ps.length->bindArgs (PySem.W.fnOf x qual (iO st) (gK st) (aH st) .none kV doc pm an cdv ct) ⟨us,[]⟩=pure (ps.zip us)):tH K fd ps []:=by
 obtain ⟨oc,od,kV,doc,pm,an,cdv,ct,osl,rfl,lk,hcd⟩:=F.ex
 exact .all (h kV doc pm an cdv ct)
theorem aB9 {x qual:Str} {st:Stmt} {f:Addr} {oc:Value} {od an:Option Addr} {osl:Array (Option Value)} {kV doc pm cdv ct:Value} (l:K.lookup f=some ⟨oc,od,.func (PySem.W.fnOf x qual (iO st) (gK st) (aH st) .none kV doc pm an cdv ct),osl⟩)
  (c:PySem.W.codeIn K cdv qual=true) (k:PySem.W.keepIn K (.ref f)=true):Fun K x qual st f (PySem.W.fnOf x qual (iO st) (gK st) (aH st) .none kV doc pm an cdv ct):=⟨⟨oc,od,kV,doc,pm,an,cdv,ct,osl,rfl,l,c⟩,k⟩
end
theorem pA {A:Around} {k:Nat} (hr:Room k A):A.units+1 < cLine:=Ec (Et (by decide:1<=64) _) hr.units
section
variable {X:Cx}
theorem pv (i:Nat) {x:Str} {pos:Pos} (hN:X.N[i]?=some x:=by rfl) (hv:Vis X.env.scope x:=by first | exact Or.inl rfl | exact Or.inr (Or.inl rfl) | exact Or.inr (Or.inr rfl)) (hd:(x==("__debug__" : Str))=false:=by decide)
  (hcd:(x==("__classdict__" : Str))=false:=by decide):PE X (.Name x pos) (aFm i):=aED hN hv hd hcd
end
theorem cE {A B:Prop} (h:B):if false=true then A else B:=by
 rw [if_neg Ar]
 exact h
theorem eR {A B:Prop} (h:A):if true=true then A else B:=by
 rw [if_pos rfl]
 exact h
theorem cF {c A B:Prop} [Decidable c] (h1:c->A) (h2:¬ c->B):if c then A else B:=by
 by_cases h:c
 ·rw [if_pos h]
  exact h1 h
 ·rw [if_neg h]
  exact h2 h
def aE (H H':Hp):Prop:=∀ b o,H b=some o->H' b=some o
theorem aE.refl (H:Hp):aE H H:=fun _ _ h=>h
theorem aE.trans {H H1 H2:Hp} (a:aE H H1) (b:aE H1 H2):aE H H2:=fun c o h=>b c o (a c o h)
theorem aE.free {H H':Hp} (e:aE H H') {l:Addr} (h:H' l=Option.none):H l=Option.none:=by
 cases q:H l with
 | none=>rfl
 | some o =>
  rw [e l o q] at h
  cases h
theorem aE.seq {K:PySem.W.Frag} {H H':Hp} {a:Addr} {xs:List V} (e:aE H H') (h:SqL K H a xs):SqL K H' a xs:=by
 rcases h with (h | ⟨o,h⟩) | h
 ·exact .inl (.inl (e _ _ h))
 ·exact .inl (.inr ⟨o,e _ _ h⟩)
 ·exact .inr h
def fP (env:Env):List (Str×NameKind)->List (Str×Addr)->List (Str×Addr)
 | [],acc=>acc
 | (n,k)::r,acc=>if k==.free then (match env.cells.lookup n with | some c=>fP env r ((n,c)::acc) | none=>fP env r acc) else fP env r acc
theorem wO {env:Env}:∀ (names:List (Str×NameKind)) (acc:List (Str×Addr)),(∀ y∈names,y.2=.free->∃ c,env.cells.lookup y.1=some c) ->
  (forIn names acc fun (x:Str×NameKind) (r:List (Str×Addr))=>(match x with
   | (name,kind)=>if (kind==NameKind.free)=true then (do let a<-cellOf env name; pure (ForInStep.yield ((name,a)::r))) else pure (ForInStep.yield r):Sem (ForInStep (List (Str×Addr)))))=(pure (fP env names acc):Sem _)
 | [],acc,_=>rfl
 | (n,k)::r,acc,h=>by
  have ih:=fun acc=>wO r acc fun y hy=>h y (Av _ hy)
  rw [Dg]
  by_cases hk:(k==NameKind.free)=true
  ·obtain ⟨c,hc⟩:=h (n,k) Ao (by simpa using hk)
   have e1:fP env ((n,k)::r) acc=fP env r ((n,c)::acc):=by
    show (if k==.free then _ else _)=_
    rw [if_pos hk]; simp only at hc; rw [hc]
   simp only at hc
   rw [e1,<- ih]
   simp only [hk,if_true,cellOf,hc]
   rfl
  ·have e1:fP env ((n,k)::r) acc=fP env r acc:=by
    show (if k==.free then _ else _)=_
    rw [if_neg hk]
   rw [e1,<- ih]
   simp only [hk,if_false]
   rfl
theorem yY {env:Env} {scope:Scope} (h:∀ y∈scope.names,y.2=.free->∃ c,env.cells.lookup y.1=some c):closureFor scope env=pure (fP env scope.names []):=by
 unfold closureFor
 have e:=wO scope.names [] h
 show (forIn scope.names [] _ >>= _)=_
 exact (congrArg (fun z=>z >>= fun r=>pure r) e).trans rfl
theorem kH {env:Env}:∀ (names:List (Str×NameKind)) (acc:List (Str×Addr)) (n:Str) (c:Addr),(n,c)∈fP env names acc->(n,c)∈acc∨env.cells.lookup n=some c
 | [],_,_,_,h=>.inl h
 | (m,k)::r,acc,n,c,h=>by
  by_cases hk:(k==NameKind.free)=true
  ·rw [show fP env ((m,k)::r) acc=(match env.cells.lookup m with | some c=>fP env r ((m,c)::acc) | none=>fP env r acc) from if_pos hk] at h
   cases e:env.cells.lookup m with
   | none=>rw [e] at h; exact kH r acc n c h
   | some d =>
    rw [e] at h
    rcases kH r _ n c h with q | q
    ·rcases Am.mp q with q | q
     ·cases q; exact .inr e
     ·exact .inl q
    ·exact .inr q
  ·rw [show fP env ((m,k)::r) acc=fP env r acc from if_neg hk] at h
   exact kH r acc n c h
theorem kI {env:Env}:∀ (names:List (Str×NameKind)) (acc:List (Str×Addr)) (n:Str),((∃ c,(n,c)∈acc)∨((n,NameKind.free)∈names/\∃ c,env.cells.lookup n=some c))->∃ c,(n,c)∈fP env names acc
 | [],_,_,h=>by
  rcases h with h | ⟨h,_⟩
  ·exact h
  ·cases h
 | (m,k)::r,acc,n,h=>by
  by_cases hk:(k==NameKind.free)=true
  ·rw [show fP env ((m,k)::r) acc=(match env.cells.lookup m with | some c=>fP env r ((m,c)::acc) | none=>fP env r acc) from if_pos hk]
   cases e:env.cells.lookup m with
   | none =>
    refine kI r acc n ?_
    rcases h with h | ⟨h,c,hc⟩
    ·exact .inl h
    ·rcases Am.mp h with h | h
     ·cases h; rw [e] at hc; cases hc
     ·exact .inr ⟨h,c,hc⟩
   | some d =>
    refine kI r _ n ?_
    rcases h with ⟨c,h⟩ | ⟨h,c,hc⟩
    ·exact .inl ⟨c,Av _ h⟩
    ·rcases Am.mp h with h | h
     ·cases h; exact .inl ⟨d,Ao⟩
     ·exact .inr ⟨h,c,hc⟩
  ·rw [show fP env ((m,k)::r) acc=fP env r acc from if_neg hk]
   refine kI r acc n ?_
   rcases h with h | ⟨h,c,hc⟩
   ·exact .inl h
   ·rcases Am.mp h with h | h
    ·cases h; exact absurd rfl hk
    ·exact .inr ⟨h,c,hc⟩
theorem iP {β:Type}:∀ {l:List (Str×β)} {a:Str} {b:β},l.lookup a=some b->(a,b)∈l:=PySem.mem_of_lookup_some
theorem kJ {β:Type}:∀ {l:List (Str×β)} {a:Str} {b:β},(a,b)∈l->∃ c,l.lookup a=some c
 | (k,v)::l,a,b,h=>by
  rw [Ci]
  by_cases e:(a==k)=true
  ·rw [e]; exact ⟨v,rfl⟩
  ·have e':(a==k)=false:=by simpa using e
   rw [e']
   rcases Am.mp h with h | h
   ·cases h; simp at e
   ·exact kJ h
theorem iD {env:Env} (x:Str):∀ (names:List (Str×NameKind)),
  (names.map fun (n,k)=>if (k==NameKind.free && env.scope.kind==.function && env.kindOf n==some .cell) then (n,NameKind.cell) else (n,k)).lookup x =
   (names.lookup x).map fun k=>if (k==NameKind.free && env.scope.kind==.function && env.kindOf x==some .cell) then NameKind.cell else k
 | []=>rfl
 | (n,k)::r=>by
  have ih:=iD (env:=env) x r
  rw [Ba]
  by_cases e:(x==n)=true
  ·have en:x=n:=by simpa using e
   subst en
   dsimp only
   by_cases c:(k==NameKind.free && env.scope.kind==.function && env.kindOf x==some .cell)=true
   ·rw [if_pos c,Ci,Ci,e]
    simp only [Cv,c,if_true]
   ·rw [if_neg c,Ci,Ci,e]
    simp only [Cv,c]
    rfl
  ·have e':(x==n)=false:=by simpa using e
   dsimp only
   by_cases c:(k==NameKind.free && env.scope.kind==.function && env.kindOf n==some .cell)=true
   ·rw [if_pos c,Ci,Ci,e']; exact ih
   ·rw [if_neg c,Ci,Ci,e']; exact ih
def cL (X:Cx) (scope:Scope) (N:List Str) (C:Addr) (s0:Shared) (H0:Hp) (fp:List Addr):Cx where
 prog:=X.prog
 w:=X.w
 K:=X.K
 mg:=X.mg
 base:=X.base
 A:=X.A
 N:=N
 s₀:=s0
 H₀:=H0
 env:=compEnvC scope (fP X.env scope.names []) C X.env
 outer:=X.stack
 stack:=X.stack
 ex:=fp
 fn:=fun _=>false
 calm:=X.calm
 pn:=[]
 xe:=fun _ _=>False
def oC (sc scope:Scope) (own:List Str) (frn:List Str):Bool :=
 scope.kind==.function && scope.names.all (fun y=>y.2 !=.cell) && scope.names.all (fun y=>y.2 !=.local || scope.names.lookup y.1==some .local) &&
 scope.names.all (fun y=>y.2 !=.free || sc.names.lookup y.1==some .cell || sc.names.lookup y.1==some .free) && decide (own++frn).Nodup &&
 own.all (fun x=>scope.names.lookup x==some .local) && frn.all (fun x=>scope.names.lookup x==some .free)
def blk (own:Nat) (fr:List Nat) (σ:St):St:=List.replicate own none++fr.map fun j=>(σ[j]?).join
structure CompOk (X:Cx) (scope:Scope) (own:List Str) (fr:List Nat) (frn:List Str):Prop where
 ck:oC X.env.scope scope own frn=true
 ix:∀ (k:Nat) (x:Str),frn[k]?=some x->∃ j:Nat,fr[k]?=some j/\X.N[j]?=some x
 len:fr.length=frn.length
section
variable {X:Cx} {scope:Scope} {own frn:List Str} {fr:List Nat}
theorem CompOk.parts (S:CompOk X scope own fr frn):scope.kind=.function/\(∀ y∈scope.names,y.2≠.cell)/\(∀ y∈scope.names,y.2=.local->scope.names.lookup y.1=some .local) /\
  (∀ y∈scope.names,y.2=.free->X.env.scope.names.lookup y.1=some .cell∨X.env.scope.names.lookup y.1=some .free)/\(own++frn).Nodup/\(∀ x∈own,scope.names.lookup x=some .local)/\∀ x∈frn,scope.names.lookup x=some .free:=by
 have h:=S.ck
 unfold oC at h
 simp only [Az,Bf,decide_eq_true_eq,Fv,bne_iff_ne,ne_eq,beq_iff_eq] at h
 obtain ⟨⟨⟨⟨⟨⟨h1,h2⟩,h3⟩,h4⟩,h5⟩,h6⟩,h7⟩:=h
 refine ⟨h1,h2,fun y hy e=>?_,fun y hy e=>?_,h5,h6,h7⟩
 ·rcases h3 y hy with z | z
  ·exact absurd e z
  ·exact z
 ·rcases h4 y hy with (z | z) | z
  ·exact absurd e z
  ·exact .inl z
  ·exact .inr z
theorem yZ (S:CompOk X scope own fr frn) (σ:St):(blk own.length fr σ).length=(own++frn).length:=by
 unfold blk
 rw [Aq,Aq,Bn,Ac,S.len]
theorem aCa {pins:List (Addr×Obj)} {σ:St} {H:Hp} {s:Shared} {fp:List Addr} {h1:Heap} {tk:Nat} {C D:Addr} {oD:Obj} {m:Str->Option Value} (I:Inv X pins σ H s) (S:CompOk X scope own fr frn)
  (hfp:∀ b∈fp,qF X pins H b) (hlt:∀ b∈fp,b < s.heap.objs.size) (hC:s.heap.objs.size<=C) (hn:h1.Ns C m) (hk:∀ b o,s.heap.get? b=some o->h1.get? b=some o)
  (hD:s.heap.objs.size<=D) (hDC:D≠C) (hoD:h1.get? D=some oD) (hdD:∀ v,oD.data≠.cell v) :
  Inv (cL X scope (own++frn) C s H fp) [(D,oD)] (blk own.length fr σ) H { s with heap:=h1,toks:=tk }:=by
 obtain ⟨p1,p2,p3,p4,p5,p6,p7⟩:=S.parts
 have below:∀ b,b < s.heap.objs.size->b≠C:=fun b hb z=>Bq _ (Au (z ▸ hb) hC)
 have clsub:∀ x c,(fP X.env scope.names []).lookup x=some c->X.env.cells.lookup x=some c:=fun x c e=>by
  rcases kH _ _ _ _ (iP e) with q | q
  ·cases q
  ·exact q
 have clt:∀ x c,X.env.cells.lookup x=some c->c < s.heap.objs.size:=fun x c e=>by
  obtain ⟨v,q⟩:=I.cell x c e
  exact q.lt
 have nstk:∀ b∈fp,b∉frs X.stack:=fun b hb z=>by
  obtain ⟨_,f1,f2,_⟩:=hfp b hb
  rcases Am.mp (I.stkSub b z) with e | e
  ·exact f1 e
  ·exact f2 e
 have Dfs:D∉frs X.stack:=fun z=>by
  have q:=I.stkSub D z
  rcases Am.mp q with e | e
  ·exact Bq _ (Au (e ▸ I.lt:D < _) hD)
  ·exact I.nofs hD e
 refine ⟨⟨I.ok.mod,p1,I.ok.glob,I.ok.blt,hC,fun x y c e1 e2=>I.ok.inj x y c (clsub x c e1) (clsub y c e2),fun x hx=>?_,fun x c e=>absurd e (by show ¬ (false=true); decide),I.ok.hd,I.ok.frames,.inl rfl,fun b hb=>?_,I.bs,At I.ok.bsz I.sz,fun b o e hb=>?_,nstk,I.stack,I.stkFree⟩,
  rfl,I.bare,Un.kept hk,⟨m,hn,fun i x v e1 e2 e3=>?_⟩,fun x c e=>?_,I.hok.fresh hC,fun x c e=>I.freeC x c (clsub x c e),fun p hp=>?_,I.hok.kept hk,yZ S σ⟩
 ·-- has
  have hx':(relabel scope X.env).names.lookup x=some .cell∨(relabel scope X.env).names.lookup x=some .free:=hx
  have hl:(relabel scope X.env).names.lookup x=_:=iD (env:=X.env) x scope.names
  rw [hl] at hx'
  cases e:scope.names.lookup x with
  | none =>
   rw [e] at hx'
   rcases hx' with z | z <;> cases z
  | some k =>
   have hmem:=iP e
   have hkf:k=.free:=by
    rw [e] at hx'
    simp only [Cv,Option.some.injEq] at hx'
    by_cases c:(k==NameKind.free && X.env.scope.kind==.function && X.env.kindOf x==some .cell)=true
    ·simp only [Az,beq_iff_eq] at c
     exact c.1.1
    ·rw [if_neg c] at hx'
     rcases hx' with z | z
     ·exact absurd z (p2 _ hmem)
     ·exact z
   subst hkf
   obtain ⟨c,hc⟩:=I.ok.has x (p4 _ hmem rfl)
   obtain ⟨c',hc'⟩:=kI (env:=X.env) scope.names [] x (.inr ⟨hmem,c,hc⟩)
   exact kJ hc'
 ·-- exf
  refine ⟨below b (hlt b hb),fun x c e=>?_⟩
  exact (hfp b hb).2.2.2.2.1 x c (clsub x c e)
 ·-- noex
  rcases (hfp b hb).2.2.2.1 with z | z
  ·exact I.ok.noex b o e z
  ·exact absurd (Au (Ak (I.ok.bs b o e).1) z) (Bq _)
 ·-- loc
  show ∃ u,bI v u/\aFl _ _ _ x u
  have e1':(own++frn)[i]?=some x:=e1
  have e2':(blk own.length fr σ)[i]?=some (some v):=e2
  unfold blk at e2'
  by_cases hi:i < own.length
  ·rw [Bk (by simpa using hi),Bx] at e2'
   rw [if_pos hi] at e2'
   cases e2'
  ·rw [Cc (by simpa using hi)] at e2'
   rw [Cc (by omega)] at e1'
   rw [Bn,Af] at e2'
   obtain ⟨j,hj1,hj2⟩:=S.ix _ _ e1'
   rw [hj1] at e2'
   simp only [Cv,Option.some.injEq] at e2'
   have hσ:σ[j]?=some (some v):=by
    cases q:σ[j]? with
    | none=>rw [q] at e2'; cases e2'
    | some w=>rw [q] at e2'; exact congrArg some e2'
   have hfree:=p7 x (Ah e1')
   have hmem:=iP hfree
   have kx:=p4 _ hmem rfl
   have vis:Vis X.env.scope x:=by
    rcases kx with z | z
    ·exact .inr (.inl z)
    ·exact .inr (.inr z)
   obtain ⟨m0,hn0,hl0⟩:=I.loc
   obtain ⟨u,ru,lk⟩:=hl0 j x v hj2 hσ vis
   refine ⟨u,ru,.inr ⟨?_,?_⟩⟩
   ·show (relabel scope X.env).names.lookup x=some .cell∨(relabel scope X.env).names.lookup x=some .free
    have hl:(relabel scope X.env).names.lookup x=_:=iD (env:=X.env) x scope.names
    rw [hl,hfree]
    simp only [Cv,Option.some.injEq]
    by_cases c:(NameKind.free==NameKind.free && X.env.scope.kind==.function && X.env.kindOf x==some .cell)=true
    ·rw [if_pos c]; exact .inl rfl
    ·rw [if_neg c]; exact .inr rfl
   ·rcases lk with ⟨kl,_⟩ | ⟨_,c,hc,hcell⟩
    ·have kl':X.env.scope.names.lookup x=some .local:=kl
     rcases kx with z | z <;> (have z':X.env.scope.names.lookup x=_:=z; rw [kl'] at z'; cases z')
    ·obtain ⟨c',hc'⟩:=kI (env:=X.env) scope.names [] x (.inr ⟨hmem,c,hc⟩)
     obtain ⟨c2,hc2⟩:=kJ hc'
     have ec:c2=c:=by
      have:=clsub x c2 hc2
      rw [hc] at this
      exact (Option.some.inj this).symm
     subst ec
     obtain ⟨oc,ho,hd⟩:=hcell
     exact ⟨c2,hc2,oc,hk _ _ ho,hd⟩
 ·obtain ⟨v,o,ho,hd⟩:=I.cell x c (clsub x c e)
  exact ⟨v,o,hk _ _ ho,hd⟩
 ·have hp':p∈([]:List (Addr×Obj))++[(D,oD)]:=hp
  simp only [Dr,An] at hp'
  subst hp'
  exact ⟨hoD,I.hok.fresh hD,hDC,Dfs,hdD⟩
end
theorem wP {prog:Program} {w:World} {A:Around} {R:Result->Shared->Prop} {s:Shared} {elt target iter:Expr} {ifs:List Expr} {scope:Scope} {pos:Pos} {it acc:Value} {env:Env} (I:Nat->Shared->Prop)
  (turn:∀ n s,I n s->wpAny (model prog w) A (pyNext it) (fun r s₁=>match r with
   | none=>R (.ok .next) s₁
   | some v=>wpAny (model prog w) A (letOwnedTupleGo target it v) (fun _ s₁'=>wpAny (model prog w) A (assign target env v) (fun _ s₂ =>
     wpAny (model prog w) A (forIn ifs true fun c r=>if r=true then do let ok<-isTrue c env (eval c env); pure (ForInStep.yield ok) else pure (ForInStep.yield r)) (fun ok s₃ =>
      if ok=true then wpAny (model prog w) A (eval elt env) (fun x s₄ =>
       wpAny (model prog w) A (call (.builtin "list.append") [acc,x]) (fun _ s₅=>∃ m,m < n/\I m s₅) (fun _ _=>False) s₄) (fun _ _=>False) s₃
      else ∃ m,m < n/\I m s₃) (fun _ _=>False) s₂) (fun _ _=>False) s₁') (fun _ _=>False) s₁) (fun _ _=>False) s)
  (n:Nat) (h:I n s) :
  codeAny (model prog w) A (.compLoop (.ListComp elt [⟨target,iter,ifs,0⟩] scope pos) 0 it acc env) R s:=by
 refine codeAny_loop rfl I (fun n s hI=>?_) n h
 show wpAny _ A ((compTurn (.ListComp elt [⟨target,iter,ifs,0⟩] scope pos) 0 it acc env).onRaise (fun x=>do noteFrame x env; theTreesLotGoes x)) _ _ s
 refine wpAny_noted ?_
 rw [compTurn_list]
 refine wpAny_bind (wpAny_standAt (wpAny_bind (wpAny_mono (turn n s hI) (fun r s₁ h₁=>?_) fun _ _ h'=>h'.elim)))
 cases r with
 | none=>exact wpAny_pure h₁
 | some v =>
  refine wpAny_bind (wpAny_mono h₁ (fun _ s₁' h₁'=>?_) fun _ _ h'=>h'.elim)
  refine wpAny_bind (wpAny_mono h₁' (fun _ s₂ h₂=>wpAny_bind (wpAny_mono h₂ (fun ok s₃ h₃=>?_) fun _ _ h'=>h'.elim)) fun _ _ h'=>h'.elim)
  cases ok with
  | false=>exact wpAny_pure ⟨rfl,h₃⟩
  | true =>
   exact wpAny_bind (wpAny_bind (wpAny_mono h₃ (fun x s₄ h₄=>wpAny_bind (wpAny_mono h₄ (fun _ s₅ h₅=>wpAny_pure (wpAny_pure ⟨rfl,h₅⟩)) fun _ _ h'=>h'.elim)) fun _ _ h'=>h'.elim))
def PF (X:Cx) (ifs:List Expr) (t:TT):Prop :=
 ∀ (pins:List (Addr×Obj)) (s:Shared) (σ:St) (H:Hp) (Q:Bool->Hp->Prop),Inv X pins σ H s->t σ H Q ->
  wpAny (model X.prog X.w) X.A (forIn ifs true fun c r=>if r=true then do let ok<-isTrue c X.env (eval c X.env); pure (ForInStep.yield ok) else pure (ForInStep.yield r)) (TP X pins σ Q) X.xe s
def wQ:TT:=fun _ H Q=>Q true H
theorem cT {X:Cx}:PF X [] wQ:=fun _ _ _ H _ I h=>wpAny_tests_nil ⟨H,I,h⟩
theorem iW {X:Cx} {c:Expr} {t:TT} (h:PT X c t):PF X [c] t:=fun pins s σ H Q I hq=>wpAny_tests_one (h pins s σ H Q I hq)
def aEo (own:Nat) (fr:List Nat) (wi:TI) (g:TG) (tt:TT) (te:TE):TE:=fun σ H Q=>wi σ H fun J H1=>∃ W:Nat->Nat->List V->St->Hp->Prop,(∃ m,W 0 m [] (blk own fr σ) H1)/\∀ i m ys σ' H,W i m ys σ' H ->
 (J.stop i H/\∀ p,H p=none->Q (.ref p) (upd H p (.lst ys))) ∨
 (J.go i H/\∃ N:List V->St->Hp->Prop,(∀ ys' σ2 H2,N ys' σ2 H2->∃ m',m' < m/\W (i+1) m' ys' σ2 H2) /\
  ∀ x H',J.yld i H x H'->g x σ' H' fun σ2 H2=>tt σ2 H2 fun b H3=>if b=true then te σ2 H3 fun y H4=>ys.length < sizeLine/\N (ys++[y]) σ2 H4 else N ys σ2 H3)
section
variable {X:Cx} {scope:Scope} {own frn:List Str} {fr:List Nat} {elt tg iter:Expr} {ifs:List Expr} {pos:Pos} {wi:TI} {g:TG} {tt:TT} {te:TE}
theorem Inv.track {pins:List (Addr×Obj)} {σ:St} {H:Hp} {s:Shared} {D:Addr} {ys:List V} {its:Array Value} (I:Inv X pins σ H s) (hD:s.heap.PlainList D its) (hv:bB ys its.toList) (hz:ys.length<=sizeLine) (hn:H D=none) (hL:D≠X.env.locals)
  (h1:X.s₀.heap.objs.size<=D) (h2:∀ x c,X.env.cells.lookup x=some c->c≠D) (h3:∀ p∈X.pn++pins,p.1≠D):Inv X pins σ (upd H D (.lst ys)) s:=by
 have ne:∀ b u,H b=some u->b≠D:=fun b u e z=>by rw [z,hn] at e; cases e
 refine I.step (g':=s.gens) (d':=s.drawn) (t':=s.toks) (h':=s.heap) (ch:=[D]) (fun b hb=>?_) (fun b o _ _ _ e _=>e) (fun b o _ _ _ e _=>⟨o.slots,e⟩) (fun b o hc _ n=>?_) (fun b o _ e=>⟨o,e⟩)
  (fun b xs e=>by rw [aJ (ne b _ e)]; exact e) (fun b o u e=>by rw [aJ (ne b _ e)]; exact e) (fun b ps e=>⟨#[],by rw [aJ (ne b _ e),e]; simp⟩) (fun _ h=>h) (fun b u e=>?_) I.bare
 ·have e:b=D:=by simpa using hb
  subst e
  exact ⟨.inr h1,hL,h2,h3⟩
 ·rw [aJ (by simpa using hc)]; exact n
 ·by_cases hb:b=D
  ·subst hb
   rw [aB] at e; cases e
   obtain ⟨n,e⟩:=hD
   exact ⟨hz,its.toList,n,hv,by simpa using e⟩
  ·rw [aJ hb] at e
   exact (I.hok b u e).stay (fun c v _ q=>q) (fun c q=>by rw [aJ (ne c _ q)]; exact q) fun c xs q=>by rw [aJ (ne c _ q)]; exact q
theorem qM {pins:List (Addr×Obj)} {σ:St} {H2:Hp} {s2:Shared} {it:Addr} {fp:List Addr} {tn:Nat->Heap->Prop} {J:It} {RR:Value->Addr->Result->Shared->Prop} {E:Value->Shared->Prop} {Q:Hp->List V->Prop}
  (S:CompOk X scope own fr frn) (hc:X.calm=true) (I2:Inv X pins σ H2 s2) (T:Turn X.prog X.w X.K tg J fp it tn) (st2:tn 0 s2.heap) (f2:∀ b∈fp,qF X pins H2 b)
  (hg:∀ C s0 H0 fp,PG (cL X scope (own++frn) C s0 H0 fp) tg g) (ht:∀ C s0 H0 fp,PF (cL X scope (own++frn) C s0 H0 fp) ifs tt) (he:∀ C s0 H0 fp,PE (cL X scope (own++frn) C s0 H0 fp) elt te)
  (w:∃ W:Nat->Nat->List V->St->Hp->Prop,(∃ m,W 0 m [] (blk own.length fr σ) H2)/\∀ i m ys σ' H,W i m ys σ' H ->
   (J.stop i H/\Q H ys) ∨
   (J.go i H/\∃ N:List V->St->Hp->Prop,(∀ ys' σ2 H2,N ys' σ2 H2->∃ m',m' < m/\W (i+1) m' ys' σ2 H2) /\
    ∀ x H',J.yld i H x H'->g x σ' H' fun σ2 H2=>tt σ2 H2 fun b H3=>if b=true then te σ2 H3 fun y H4=>ys.length < sizeLine/\N (ys++[y]) σ2 H4 else N ys σ2 H3))
  (hRR:∀ (C D:Addr) (s':Shared) (H':Hp) (ys:List V) (its:Array Value) (m:Str->Option Value),s2.heap.objs.size<=C->s2.heap.objs.size<=D->D≠C->s'.heap.Ns C m->H' C=none->H' D=none->s'.heap.PlainList D its->bB ys its.toList->ys.length<=sizeLine ->
   Inv X pins σ H' s'->Q H' ys->RR (.ref D) C (.ok .next) s') :
  wpAny (model X.prog X.w) X.A (newList []) (fun acc s₃=>wpAny (model X.prog X.w) X.A (newFunctionEnv scope X.env.globals (fP X.env scope.names []) [] X.env.qual none .none (some X.env)) (fun cenv s₄ =>
   codeAny (model X.prog X.w) X.A (.compStart (.ListComp elt [⟨tg,iter,ifs,0⟩] scope pos) 0 (.ref it) acc { cenv with scope:=relabel scope X.env }) (RR acc cenv.locals) s₄) E s₃) E s2:=by
 obtain ⟨p1,p2,p3,p4,p5,p6,p7⟩:=S.parts
 obtain ⟨W,⟨m0,w0⟩,turn⟩:=w
 refine wpAny_newObj_type (wpAny_newFunctionEnv p2 (by intro y hy; simp at hy) (fun h₁ hns₁ hsb₁=>?_) p1)
 dsimp only at hns₁ hsb₁ ⊢
 generalize hH2:s2.heap.push { cls:=.type "list",dict:=none,data:=.seq ([]:List Value).toArray }=HD at hns₁ hsb₁ ⊢
 have hCs:HD.objs.size=s2.heap.objs.size+1:=by rw [<- hH2,Bj]
 have hDC:s2.heap.objs.size≠HD.objs.size:=by omega
 have hCle:s2.heap.objs.size<=HD.objs.size:=by omega
 have below:∀ b,b < s2.heap.objs.size->b≠HD.objs.size/\b≠s2.heap.objs.size:=fun b hb=>⟨by omega,by omega⟩
 have old:∀ b o,s2.heap.get? b=some o->h₁.get? b=some o:=fun b o e=>hsb₁.extBut b o (below b (Ak e)).1 (Aa _ (hH2 ▸ Aa _ e))
 have hacc:h₁.get? s2.heap.objs.size=some { cls:=.type "list",data:=.seq ([]:List Value).toArray }:=hsb₁.extBut _ _ hDC (Aa _ (hH2 ▸ Ag _ rfl))
 have flt:∀ b∈fp,b < s2.heap.objs.size:=fun b hb=>by
  obtain ⟨o,e,_⟩:=T.obj _ _ st2 b hb
  exact Ak e
 generalize hDg:s2.heap.objs.size=D at *
 generalize hCg:HD.objs.size=C at *
 have st3:tn 0 h₁:=T.keep _ _ _ st2 fun b _ o e=>old b o e
 -- facts of the block
 have clsub:∀ x c,(fP X.env scope.names []).lookup x=some c->X.env.cells.lookup x=some c:=fun x c e=>by
  rcases kH _ _ _ _ (iP e) with q | q
  ·cases q
  ·exact q
 have cD:∀ x c,(fP X.env scope.names []).lookup x=some c->c≠D:=fun x c e z=>by
  obtain ⟨v,q⟩:=I2.cell x c (clsub x c e)
  exact Bq _ (Au q.lt (by rw [hDg,z]; exact Ai _))
 have loop:∀ s₃:Shared,s₃={ s2 with heap:=h₁,toks:=s2.toks+([]:List (Str×Value)).length } ->
   codeAny (model X.prog X.w) X.A (.compLoop (.ListComp elt [⟨tg,iter,ifs,0⟩] scope pos) 0 (.ref it) (.ref D) (compEnvC scope (fP X.env scope.names []) C X.env)) (RR (.ref D) C) s₃:=by
  rintro s₃ rfl
  have I3:Inv (cL X scope (own++frn) C s2 H2 fp) [(D,_)] (blk own.length fr σ) H2 { s2 with heap:=h₁,toks:=s2.toks+([]:List (Str×Value)).length } :=
   aCa (m:=fun _=>none) I2 S f2 (by rw [hDg]; exact flt) (by rw [hDg]; exact hCle) (hns₁:h₁.Ns C _) old (by rw [hDg]; exact Ai _) hDC hacc (fun v z=>by cases z)
  have stat:∀ {H':Hp} {pl:List (Addr×Obj)},(∀ p∈pl,p.1=D)->(∀ b∈fp,H' b=none)->∀ b∈fp,qF (cL X scope (own++frn) C s2 H2 fp) pl H' b:=fun {H' pl} hpl hn b hb=>by
   refine ⟨hn b hb,(below b (flt b hb)).1,fun z=>?_,.inl hb,fun x c e=>(f2 b hb).2.2.2.2.1 x c (clsub x c e),fun p hp=>?_⟩
   ·have z':b∈frs X.stack:=z
    rcases Am.mp (I2.stkSub b z') with e | e
    ·exact (f2 b hb).2.1 e
    ·exact (f2 b hb).2.2.1 e
   ·have hp':p∈pl:=by simpa [cL] using hp
    rw [hpl p hp']
    exact Ne.symm (below b (flt b hb)).2
  refine wP (env:=compEnvC scope (fP X.env scope.names []) C X.env) (fun n s'=>∃ i σ' H' ys its o,Inv (cL X scope (own++frn) C s2 H2 fp) [(D,o)] σ' H' s'/\s'.heap.PlainList D its/\bB ys its.toList/\ys.length<=sizeLine/\tn i s'.heap/\(∀ b∈fp,H' b=none)/\W i n ys σ' H') ?_ m0
   ⟨0,_,H2,[],#[],_,I3,⟨_,hacc⟩,.nil,Bo _,st3,fun b hb=>(f2 b hb).1,w0⟩
  rintro n s5 ⟨i,σ5,H5,ys,its,o,I5,pl5,v5,z5,st5,fr5,w5⟩
  have one:∀ {o:Obj},∀ p∈[(D,o)],p.1=D:=fun p hp=>by
   have e:=An.mp hp
   rw [e]
  rcases turn i n ys σ5 H5 w5 with ⟨stop,qn⟩ | ⟨go,N,hN,step⟩
  ·refine wpAny_mono (T.done (cL X scope (own++frn) C s2 H2 fp) rfl rfl rfl hc i _ s5 σ5 H5 (fun _ _=>False) I5 (stat one fr5) st5 stop) (fun r s6 hx9=>?_) fun _ _ z=>z
   obtain ⟨hr,I6⟩:=hx9
   subst hr
   obtain ⟨m6,hn6,_⟩:=I6.loc
   have p6:=I6.pin (D,o) (by simp [cL])
   have p5':=I5.pin (D,o) (by simp [cL])
   have pl6:s6.heap.PlainList D its:=by
    obtain ⟨k,e⟩:=pl5
    have e1:o=_:=Option.some.inj (p5'.1.symm.trans e)
    exact ⟨k,by rw [p6.1]; exact congrArg some e1⟩
   have IX:Inv X pins σ H5 s6:=I2.call' (ch:=fp) I6.os I6.base I6.hok I6.bare fun b hb=>⟨(f2 b hb).2.2.2.1,(f2 b hb).2.1,(f2 b hb).2.2.2.2.1,(f2 b hb).2.2.2.2.2⟩
   exact hRR C D s6 H5 ys its m6 hCle (Ai _) hDC hn6 I6.free p6.2.1 pl6 v5 z5 IX qn
  ·refine wpAny_mono (T.item (cL X scope (own++frn) C s2 H2 fp) rfl rfl rfl hc i _ s5 σ5 H5 (fun _ _=>False) I5 (stat one fr5) st5 go) (fun r s6 hx9=>?_) fun _ _ z=>z
   obtain ⟨u,hr,h6⟩:=hx9
   subst hr
   refine wpAny_mono h6 (fun _ s7 hx9=>?_) fun _ _ z=>z
   obtain ⟨x,H7,I7,r7,y7,st7,fr7⟩:=hx9
   have I7':=I7.pinned (stat one fr7) (T.obj _ _ st7)
   refine wpAny_mono (hg C s2 H2 fp _ s7 σ5 H7 x u _ I7' r7 (step x H7 y7)) (fun _ s8 hx9=>?_) fun _ _ z=>z
   obtain ⟨σ8,H8,I8,q8⟩:=hx9
   refine wpAny_mono (ht C s2 H2 fp _ s8 σ8 H8 _ I8 q8) (fun b s9 hx9=>?_) fun _ _ z=>z
   obtain ⟨H9,I9,q9⟩:=hx9
   -- what stands of the iterator and of the gathered list behind the tests,behind the item
   have keepT:∀ {H':Hp} {s':Shared} {σ':St},Inv (cL X scope (own++frn) C s2 H2 fp) ([(D,o)]++qG fp s7.heap) σ' H' s'->tn (i+1) s'.heap/\(∀ b∈fp,H' b=none)/\s'.heap.PlainList D its/\H' D=none:=fun {H' s' σ'} I'=>by
    refine ⟨T.keep _ _ _ st7 fun b hb o e=>(I'.pin (b,o) (Bw _ (Bw _ (jM hb e)))).1,fun b hb=>?_,?_,?_⟩
    ·obtain ⟨o,e,d⟩:=T.obj _ _ st7 b hb
     exact (I'.pin (b,o) (Bw _ (Bw _ (jM hb e)))).2.1
    ·have p':=I'.pin (D,o) (by simp [cL])
     have p5':=I5.pin (D,o) (by simp [cL])
     obtain ⟨k,e⟩:=pl5
     have e1:o=_:=Option.some.inj (p5'.1.symm.trans e)
     exact ⟨k,by rw [p'.1]; exact congrArg some e1⟩
    ·exact (I'.pin (D,o) (by simp [cL])).2.1
   cases b with
   | false =>
    rw [if_neg Ar] at q9
    rw [if_neg Ar]
    obtain ⟨m',hm,w'⟩:=hN ys σ8 H9 q9
    obtain ⟨t9,fr9,pl9,_⟩:=keepT I9
    exact ⟨m',hm,i+1,σ8,H9,ys,its,o,I9.unpinned,pl9,v5,z5,t9,fr9,w'⟩
   | true =>
    rw [if_pos rfl] at q9
    rw [if_pos rfl]
    refine wpAny_mono (he C s2 H2 fp _ s9 σ8 H9 _ I9 q9) (fun y s10 hx9=>?_) fun _ _ z=>z
    obtain ⟨yv,H10,I10,r10,lt10,q10⟩:=hx9
    obtain ⟨t10,fr10,pl10,hD10⟩:=keepT I10
    have hl:=v5.length
    refine wpAny_list_append_plain pl10 (fun h11 pl11 sb11=>?_) (by rw [<- Array.length_toList,<- hl]; exact Ex lt10)
    obtain ⟨m',hm,w'⟩:=hN _ σ8 H10 q10
    have I10':Inv (cL X scope (own++frn) C s2 H2 fp) [] σ8 H10 s10:=I10.pins_of fun p hp=>by cases hp
    have I11:Inv (cL X scope (own++frn) C s2 H2 fp) [] σ8 H10 { s10 with heap:=h11 } :=
     I10'.turned (t':=s10.toks) (it:=D) (fun b o hb e=>(sb11.2 b hb).trans e) hD10 hDC (.inr (by show s2.heap.objs.size<=D; rw [hDg]; exact Ai _)) cD (fun p hp=>by simp [cL] at hp)
    obtain ⟨k11,e11⟩:=id pl11
    have DfsX:D∉frs X.stack:=fun z=>by
     rcases Am.mp (I2.stkSub D z) with e | e
     ·exact Bq _ (Au I2.lt (by rw [hDg,e]; exact Ai _))
     ·exact I2.nofs (by rw [hDg]; exact Ai _) e
    refine ⟨m',hm,i+1,σ8,H10,ys++[yv],its.push y,{ cls:=.type "list",data:=.seq (its.push y) k11 },I11.pins_of fun p hp=>?_,pl11,?_,by rw [Aq]; show ys.length+1<=_; omega,T.keep _ _ _ t10 fun b hb o e=>(sb11.2 b (below b (flt b hb)).2).trans e,fr10,w'⟩
    ·have e:=An.mp hp
     subst e
     exact ⟨e11,hD10,hDC,DfsX,fun v z=>by cases z⟩
    ·rw [Array.toList_push]
     exact v5.append (.cons r10 .nil)
 exact codeAny_compStart_list (loop _ rfl) (T.self X.A 0 _ _ _ st3 (loop _ rfl))
theorem CompOk.clo {pins:List (Addr×Obj)} {σ:St} {H:Hp} {s:Shared} (S:CompOk X scope own fr frn) (I:Inv X pins σ H s):closureFor scope X.env=pure (fP X.env scope.names []):=by
 obtain ⟨p1,p2,p3,p4,p5,p6,p7⟩:=S.parts
 exact yY fun y hy e=>I.ok.has y.1 (p4 y hy e)
theorem bO (S:CompOk X scope own fr frn) (hc:X.calm=true) (hi:PI X tg iter wi) (hg:∀ C s0 H0 fp,PG (cL X scope (own++frn) C s0 H0 fp) tg g) (ht:∀ C s0 H0 fp,PF (cL X scope (own++frn) C s0 H0 fp) ifs tt)
  (he:∀ C s0 H0 fp,PE (cL X scope (own++frn) C s0 H0 fp) elt te) (hs:∀ x,foldedSetIterable iter X.env x=pure x:=by intro _; rfl) :
  PE X (.ListComp elt [⟨tg,iter,ifs,0⟩] scope pos) (aEo own.length fr wi g tt te):=by
 intro pins s σ H Q I h
 obtain ⟨p1,p2,p3,p4,p5,p6,p7⟩:=S.parts
 rw [eval_ListComp]
 refine wpAny_comprehension_free (use:=none) rfl hs (S.clo I) p1 p3 (thn (hi pins s σ H _ I h) fun v s1 h1=>thn h1 fun itv s2 h2=>?_)
 obtain ⟨it,fp,tn,J,H2,e,I2,T,st2,f2,hw⟩:=h2
 subst e
 refine qM (RR:=fun acc C=>compPost (model X.prog X.w) X.A X.xe none (EP X pins σ Q) acc C) (Q:=fun H ys=>∀ p,H p=none->Q (.ref p) (upd H p (.lst ys))) S hc I2 T st2 f2 hg ht he hw ?_
 intro C D s' H' ys its m hC hD hDC hns hHC hHD pl v z IX q
 have cne:∀ a,s2.heap.objs.size<=a->∀ x c,X.env.cells.lookup x=some c->c≠a:=fun a ha x c e z=>by
  obtain ⟨v,w⟩:=I2.cell x c e
  exact Bq _ (Au w.lt (by rw [z]; exact ha))
 have pne:∀ a,s2.heap.objs.size<=a->∀ p∈X.pn++pins,p.1≠a:=fun a ha p hp z=>Bq _ (Au (Ak (I2.pin p hp).1) (by rw [z]; exact ha))
 have lne:∀ a,s2.heap.objs.size<=a->a≠X.env.locals:=fun a ha z=>Bq _ (Au I2.lt (by rw [<- z]; exact ha))
 refine ⟨m,hns,fun h' hs'=>⟨.ref D,upd H' D (.lst ys),?_,rfl,q D hHD⟩⟩
 have IT:Inv X pins σ (upd H' D (.lst ys)) s':=IX.track pl v z hHD (lne D hD) (At I2.sz hD) (cne D hD) (pne D hD)
 exact IT.turned (t':=s'.toks) (it:=C) (fun b o hb e=>(hs'.2 b hb).trans e) (by rw [aJ (Ne.symm hDC)]; exact hHC) (lne C hC) (.inr (At I2.sz hC)) (cne C hC) (pne C hC)
theorem gF {i:Nat} {y:Str} {py spos:Pos} (S:CompOk X scope own fr frn) (hc:X.calm=true) (hN:X.N.Nodup) (hyi:X.N[i]?=some y) (hx:X.env.scope.names.lookup y=some .local)
  (hsw:swapsWith (.ListComp elt [⟨tg,iter,ifs,0⟩] scope pos) (some (.Name y py)) spos.line X.env=pure true)
  (hi:PI X tg iter wi) (hg:∀ C s0 H0 fp,PG (cL X scope (own++frn) C s0 H0 fp) tg g) (ht:∀ C s0 H0 fp,PF (cL X scope (own++frn) C s0 H0 fp) ifs tt)
  (he:∀ C s0 H0 fp,PE (cL X scope (own++frn) C s0 H0 fp) elt te) (hs:∀ x,foldedSetIterable iter X.env x=pure x:=by intro _; rfl) :
  PS X (.Assign [.Name y py] (.ListComp elt [⟨tg,iter,ifs,0⟩] scope pos) spos) (aEH (aEo own.length fr wi g tt te) (aAo i)):=by
 intro pins s σ H D I h
 obtain ⟨p1,p2,p3,p4,p5,p6,p7⟩:=S.parts
 rw [exec_Assign_Name_used _ _ _ _ hsw]
 refine wpAny_bind (wpAny_standAt (wpAny_bind ?_))
 show wpAny _ X.A (do let _<-comprehension (.ListComp elt [⟨tg,iter,ifs,0⟩] scope pos) scope X.env _ (newList []) false (eval iter X.env) (some (assign (.Name y py) X.env))) _ _ s
 refine wpAny_bind (wpAny_mono (wpAny_comprehension_free (use:=some (assign (.Name y py) X.env)) (Q:=fun _ s'=>SP X pins D .next s') rfl hs (S.clo I) p1 p3 (thn (hi pins s σ H _ I h) fun v s1 h1=>thn h1 fun itv s2 h2=>?_))
  (fun _ s' hq=>wpAny_pure (wpAny_pure hq)) fun _ _ e=>e)
 obtain ⟨it,fp,tn,J,H2,e,I2,T,st2,f2,hw⟩:=h2
 subst e
 refine qM (RR:=fun acc C=>compPost (model X.prog X.w) X.A X.xe (some (assign (.Name y py) X.env)) (fun _ s'=>SP X pins D .next s') acc C) (Q:=fun H ys=>∀ p,H p=none->D.nx (σ.set i (some (.ref p))) (upd H p (.lst ys))) S hc I2 T st2 f2 hg ht he hw ?_
 intro C L s' H' ys its m hC hL hLC hns hHC hHL pl v z IX q
 have cne:∀ a,s2.heap.objs.size<=a->∀ x c,X.env.cells.lookup x=some c->c≠a:=fun a ha x c e z=>by
  obtain ⟨v,w⟩:=I2.cell x c e
  exact Bq _ (Au w.lt (by rw [z]; exact ha))
 have pne:∀ a,s2.heap.objs.size<=a->∀ p∈X.pn++pins,p.1≠a:=fun a ha p hp z=>Bq _ (Au (Ak (I2.pin p hp).1) (by rw [z]; exact ha))
 have lne:∀ a,s2.heap.objs.size<=a->a≠X.env.locals:=fun a ha z=>Bq _ (Au I2.lt (by rw [<- z]; exact ha))
 have IT:Inv X pins σ (upd H' L (.lst ys)) s':=IX.track pl v z hHL (lne L hL) (At I2.sz hL) (cne L hL) (pne L hL)
 show wpAny _ _ (assign (.Name y py) X.env (.ref L)) _ _ s'
 refine wpAny_assign_Name (tG IT hN hyi (.inl hx) (v:=.ref L) rfl (fun s'' I'' hch=>?_) (.inr hx))
 obtain ⟨a,sb,ha⟩:=hch
 have hCa:C≠a:=by
  rcases ha with e | e
  ·rw [e]; exact lne C hC
  ·exact Ne.symm (cne C hC y a e)
 refine ⟨m,hns.sameBut sb hCa,fun h' hs'=>⟨σ.set i (some (.ref L)),upd H' L (.lst ys),?_,q L hHL⟩⟩
 exact I''.turned (t':=s''.toks) (it:=C) (fun b o hb e=>(hs'.2 b hb).trans e) (by rw [aJ (Ne.symm hLC)]; exact hHC) (lne C hC) (.inr (At I2.sz hC)) (cne C hC) (pne C hC)
end
inductive Kd where
 | int | bl | non | str | tup | lst | dct
 deriving DecidableEq
def KdV (K:PySem.W.Frag) (H:Hp):V->Kd->Prop
 | .int _,k=>k=.int
 | .bl _,k=>k=.bl
 | .non,k=>k=.non
 | .str _,k=>k=.str
 | .ref p,k=>(k=.lst/\∃ xs,SqL K H p xs)∨(k=.tup/\∃ xs,SqT K H p xs)∨(k=.dct/\∃ kvs,H p=some (.dK kvs))
 | _,_=>False
section
variable {X:Cx}
theorem uV {pins:List (Addr×Obj)} {σ:St} {H:Hp} {s:Shared} {p:Addr} {kvs:List (Key×V)} (I:Inv X pins σ H s) (h:H p=some (.dK kvs)):∃ o,s.heap.get? p=some o/\o.cls=.type "dict" := by
 obtain ⟨_,_,vs,_,o,es,ep,e,ex,_⟩:=I.hok p _ h
 exact ⟨o,e,ex.1⟩
theorem nG:eT X (.builtin "isinstance") (fun xs H Q=>∃ x k,xs = [x,.ty "int"]/\KdV X.K H x k/\Q (.bl (decide (k=.int∨k=.bl))) H):=by
 intro pins s σ H xs us Q I r h
 obtain ⟨x,k,rfl,hk,q⟩:=h
 obtain ⟨u,t,rfl,rx,rt⟩:=mZ r
 cases rt
 cases x with
 | int i=>cases hk; obtain ⟨t,rfl⟩:=rx; exact IsiPair.int_int ⟨.bl true,H,I,rfl,q⟩
 | bl b=>cases hk; cases rx; exact IsiPair.bool_int ⟨.bl true,H,I,rfl,q⟩
 | non=>cases hk; cases rx; exact IsiPair.NoneType_int ⟨.bl false,H,I.tok _,rfl,q⟩
 | str y=>cases hk; obtain ⟨t,rfl⟩:=rx; exact IsiPair.str_int ⟨.bl false,H,I.tok _,rfl,q⟩
 | ref p =>
  cases rx
  rcases hk with ⟨rfl,xs,hx⟩ | ⟨rfl,xs,hx⟩ | ⟨rfl,kvs,hx⟩
  ·obtain ⟨its,r',pl,hz⟩:=I.list hx; exact IsiPair.isList_int pl.isList (fun _ _ e=>e) ⟨.bl false,H,I.tok _,rfl,q⟩
  ·obtain ⟨its,r',pl,hz⟩:=I.tuple hx; exact IsiPair.isTuple_int pl (fun _ _ e=>e) ⟨.bl false,H,I.tok _,rfl,q⟩
  ·obtain ⟨o,e,c⟩:=uV I hx; exact IsiPair.dict_int e c ⟨.bl false,H,I.tok _,rfl,q⟩
 | _=>exact hk.elim
theorem lU:eT X (.builtin "isinstance") (fun xs H Q=>∃ x k,xs = [x,.ty "bool"]/\KdV X.K H x k/\Q (.bl (decide (k=.bl))) H):=by
 intro pins s σ H xs us Q I r h
 obtain ⟨x,k,rfl,hk,q⟩:=h
 obtain ⟨u,t,rfl,rx,rt⟩:=mZ r
 cases rt
 cases x with
 | int i=>cases hk; obtain ⟨t,rfl⟩:=rx; exact IsiPair.int_bool ⟨.bl false,H,I.tok _,rfl,q⟩
 | bl b=>cases hk; cases rx; exact IsiPair.bool_bool ⟨.bl true,H,I,rfl,q⟩
 | non=>cases hk; cases rx; exact IsiPair.NoneType_bool ⟨.bl false,H,I.tok _,rfl,q⟩
 | str y=>cases hk; obtain ⟨t,rfl⟩:=rx; exact IsiPair.str_bool ⟨.bl false,H,I.tok _,rfl,q⟩
 | ref p =>
  cases rx
  rcases hk with ⟨rfl,xs,hx⟩ | ⟨rfl,xs,hx⟩ | ⟨rfl,kvs,hx⟩
  ·obtain ⟨its,r',pl,hz⟩:=I.list hx; exact IsiPair.isList_bool pl.isList (fun _ _ e=>e) ⟨.bl false,H,I.tok _,rfl,q⟩
  ·obtain ⟨its,r',pl,hz⟩:=I.tuple hx; exact IsiPair.isTuple_bool pl (fun _ _ e=>e) ⟨.bl false,H,I.tok _,rfl,q⟩
  ·obtain ⟨o,e,c⟩:=uV I hx; exact IsiPair.dict_bool e c ⟨.bl false,H,I.tok _,rfl,q⟩
 | _=>exact hk.elim
theorem bQ:eT X (.builtin "isinstance") (fun xs H Q=>∃ x k,xs = [x,.ty "tuple"]/\KdV X.K H x k/\Q (.bl (decide (k=.tup))) H):=by
 intro pins s σ H xs us Q I r h
 obtain ⟨x,k,rfl,hk,q⟩:=h
 obtain ⟨u,t,rfl,rx,rt⟩:=mZ r
 cases rt
 cases x with
 | int i=>cases hk; obtain ⟨t,rfl⟩:=rx; exact IsiPair.int_tuple ⟨.bl false,H,I.tok _,rfl,q⟩
 | bl b=>cases hk; cases rx; exact IsiPair.bool_tuple ⟨.bl false,H,I.tok _,rfl,q⟩
 | non=>cases hk; cases rx; exact IsiPair.NoneType_tuple ⟨.bl false,H,I.tok _,rfl,q⟩
 | str y=>cases hk; obtain ⟨t,rfl⟩:=rx; exact IsiPair.str_tuple ⟨.bl false,H,I.tok _,rfl,q⟩
 | ref p =>
  cases rx
  rcases hk with ⟨rfl,xs,hx⟩ | ⟨rfl,xs,hx⟩ | ⟨rfl,kvs,hx⟩
  ·obtain ⟨its,r',pl,hz⟩:=I.list hx; exact IsiPair.isList_tuple pl.isList (fun _ _ e=>e) ⟨.bl false,H,I.tok _,rfl,q⟩
  ·obtain ⟨its,r',pl,hz⟩:=I.tuple hx; exact IsiPair.isTuple_tuple pl (fun _ _ e=>e) ⟨.bl true,H,I,rfl,q⟩
  ·obtain ⟨o,e,c⟩:=uV I hx; exact IsiPair.dict_tuple e c ⟨.bl false,H,I.tok _,rfl,q⟩
 | _=>exact hk.elim
theorem sN:eT X (.builtin "isinstance") (fun xs H Q=>∃ x k,xs = [x,.ty "list"]/\KdV X.K H x k/\Q (.bl (decide (k=.lst))) H):=by
 intro pins s σ H xs us Q I r h
 obtain ⟨x,k,rfl,hk,q⟩:=h
 obtain ⟨u,t,rfl,rx,rt⟩:=mZ r
 cases rt
 cases x with
 | int i=>cases hk; obtain ⟨t,rfl⟩:=rx; exact IsiPair.int_list ⟨.bl false,H,I.tok _,rfl,q⟩
 | bl b=>cases hk; cases rx; exact IsiPair.bool_list ⟨.bl false,H,I.tok _,rfl,q⟩
 | non=>cases hk; cases rx; exact IsiPair.NoneType_list ⟨.bl false,H,I.tok _,rfl,q⟩
 | str y=>cases hk; obtain ⟨t,rfl⟩:=rx; exact IsiPair.str_list ⟨.bl false,H,I.tok _,rfl,q⟩
 | ref p =>
  cases rx
  rcases hk with ⟨rfl,xs,hx⟩ | ⟨rfl,xs,hx⟩ | ⟨rfl,kvs,hx⟩
  ·obtain ⟨its,r',pl,hz⟩:=I.list hx; exact IsiPair.isList_list pl.isList (fun _ _ e=>e) ⟨.bl true,H,I,rfl,q⟩
  ·obtain ⟨its,r',pl,hz⟩:=I.tuple hx; exact IsiPair.isTuple_list pl (fun _ _ e=>e) ⟨.bl false,H,I.tok _,rfl,q⟩
  ·obtain ⟨o,e,c⟩:=uV I hx; exact IsiPair.dict_list e c ⟨.bl false,H,I.tok _,rfl,q⟩
 | _=>exact hk.elim
theorem aBe (bs:List Bool) (tr:Nat->Bool) (h:∀ i b,bs[i]?=some b->tr i=b):(List.range bs.length).all tr=bs.all id:=by
 rw [Cm,Bf,Bf]
 constructor
 ·intro q b hb
  obtain ⟨i,hi⟩:=Ge hb
  have:=q i (Br.mpr (Ad.mp hi).1)
  rw [h i b hi] at this
  exact this
 ·intro q i hi
  have hi':=Br.mp hi
  have e:bs[i]?=some bs[i]:=Ae hi'
  rw [h i _ e]
  exact q _ (Ct hi')
theorem eW (hc:X.calm=true):eT X (.builtin "all") (fun xs H Q=>∃ (p:Addr) (bs:List Bool),xs = [.ref p]/\SqL X.K H p (bs.map V.bl)/\Q (.bl (bs.all id)) H):=by
 intro pins s σ H xs us Q I r h
 obtain ⟨p,bs,rfl,hx,q⟩:=h
 obtain ⟨u,rfl,rx⟩:=eN r
 cases rx
 obtain ⟨its,rv,pl,hz⟩:=I.list hx
 have hl:=rv.length
 rw [Ac] at hl
 have hlt:p < s.heap.objs.size:=by obtain ⟨o,n,e,_⟩:=pl; exact Ak e
 refine call_all_walk (wpAny_pyIter_list pl.isList ?_)
 refine ⟨s.heap.objs.size,_,_,_,_,_,fun i=>(bs[i]?).getD false,rfl,Walks.list (A:=X.A.in1) (I.ok.hd hc) s.heap.objs.size p (As hlt) its.toArray,⟨⟨_,Ag _ rfl,rfl,rfl⟩,pl.isList.push _⟩,?_,fun h' tk hk=>?_⟩
 ·intro i v s' Q' E' hP hQ'
  have hP':its[i]?=some v:=by simpa using hP
  have hi:i < bs.length:=by rw [hl]; exact (Ad.mp hP').1
  obtain ⟨w,hw,rw'⟩:=rv.get (i:=i) (x:=.bl bs[i]) (by rw [Af,Ae hi]; rfl)
  rw [hw] at hP'
  cases hP'
  cases rw'
  have e:(bs[i]?).getD false=bs[i]:=by rw [Ae hi]; rfl
  rw [<- e]
  exact wpAny_truthy_bool hQ'
 ·have e:(List.range its.toArray.size).all (fun i=>(bs[i]?).getD false)=bs.all id:=by
   rw [Aj,<- hl]
   exact aBe bs _ fun i b hb=>by rw [hb]; rfl
  rw [e]
  refine ⟨.bl _,H,I.kept (h':=h') fun b o e=>hk b o ?_ (Aa _ e),rfl,q⟩
  intro z
  have z':b=s.heap.objs.size:=by simpa using z
  exact Bq _ (z' ▸ Ak e)
def bE (ns:List Int):Int:=ns.foldr (· + ·) 0
theorem kK (ns:List Int) (val:Nat->Int) (h:∀ (i:Nat) (v:Int),ns[i]?=some v->val i=v):∀ j,j<=ns.length->preSum val j=bE (ns.take j)
 | 0,_=>rfl
 | j+1,hj=>by
  have ih:=kK ns val h j (by omega)
  have e:ns[j]?=some ns[j]:=Ae (by omega)
  show preSum val j+val j=_
  rw [ih,h j _ e,Bm,e]
  unfold bE
  rw [List.foldr_append]
  simp only [Option.toList_some,List.foldr_cons,List.foldr_nil,Int.add_zero]
  generalize ns[j]=v
  induction (List.take j ns) with
  | nil=>simp
  | cons a l ih2=>simp only [List.foldr_cons]; omega
theorem wR (hc:X.calm=true):eT X (.builtin "sum") (fun xs H Q=>∃ (p:Addr) (ns:List Int),xs = [.ref p]/\SqL X.K H p (ns.map V.int)/\(∀ n∈ns,0<=n/\n < 1000000)/\ns.length<=1000000/\Q (.int (bE ns)) H):=by
 intro pins s σ H xs us Q I r h
 obtain ⟨p,ns,rfl,hx,hb,hlen,q⟩:=h
 obtain ⟨u,rfl,rx⟩:=eN r
 cases rx
 obtain ⟨its,rv,pl,hz⟩:=I.list hx
 have hl:=rv.length
 rw [Ac] at hl
 have hlt:p < s.heap.objs.size:=by obtain ⟨o,n,e,_⟩:=pl; exact Ak e
 have hval:∀ (i:Nat) (v:Int),ns[i]?=some v->(ns[i]?).getD 0=v:=fun i v e=>by rw [e]; rfl
 have bnd:∀ (ms:List Int),(∀ n∈ms,0<=n/\n < 1000000)->0<=bE ms/\bE ms<=ms.length*1000000:=fun ms=>by
  induction ms with
  | nil=>intro _; exact ⟨Dm _,Dm _⟩
  | cons a l ih =>
   intro hh
   have h1:=hh a Ao
   have h2:=ih fun n hn=>hh n (Av _ hn)
   have e:bE (a::l)=a+bE l:=rfl
   rw [e,Bg]
   rw [Int.natCast_add]
   omega
 refine call_sum_walk (wpAny_pyIter_list pl.isList ?_)
 refine ⟨s.heap.objs.size,_,_,_,_,_,fun i=>(ns[i]?).getD 0,rfl,Walks.list (A:=X.A.in1) (I.ok.hd hc) s.heap.objs.size p (As hlt) its.toArray,⟨⟨_,Ag _ rfl,rfl,rfl⟩,pl.isList.push _⟩,?_,?_,?_,fun h' tk t' hk=>?_⟩
 ·intro b hb'
  rw [Bj]
  rcases Am.mp hb' with e | e
  ·rw [e]; exact Dx _
  ·have e':b=p:=by simpa using e
   rw [e']; exact Bz hlt
 ·intro i v hP
  have hP':its[i]?=some v:=by simpa using hP
  have hi:i < ns.length:=by rw [hl]; exact (Ad.mp hP').1
  obtain ⟨w,hw,rw'⟩:=rv.get (i:=i) (x:=.int ns[i]) (by rw [Af,Ae hi]; rfl)
  rw [hw] at hP'
  cases hP'
  obtain ⟨t,rfl⟩:=rw'
  exact ⟨t,by show Value.int ns[i] t=Value.int ((ns[i]?).getD 0) t; rw [Ae hi]; rfl⟩
 ·intro j hj
  have hj':j < ns.length:=by rw [hl]; simpa using hj
  have e:ns[j]?=some ns[j]:=Ae hj'
  have h1:=hb _ (Ct hj')
  have h2:=bnd (ns.take (j+1)) fun n hn=>hb n (Gf hn)
  rw [kK ns _ hval (j+1) (by omega)]
  have h3:(ns.take (j+1)).length<=1000000:=by rw [Ax]; omega
  unfold InLong
  have e5:(fun i:Nat=>(ns[i]?).getD 0) j=ns[j]:=by show (ns[j]?).getD 0=_; rw [e]; rfl
  rw [e5]
  have h4:((ns.take (j+1)).length:Int)*1000000<=1000000*1000000:=by omega
  omega
 ·have e:preSum (fun i=>(ns[i]?).getD 0) its.toArray.size=bE ns:=by
   rw [Aj,<- hl,kK ns _ hval ns.length (Ai _),Bv]
  rw [e]
  refine ⟨.int _,H,I.kept (h':=h') fun b o e=>hk b o ?_ (Aa _ e),⟨_,rfl⟩,q⟩
  intro z
  have z':b=s.heap.objs.size:=by simpa using z
  exact Bq _ (z' ▸ Ak e)
end
mutual
def Den (K:PySem.W.Frag) (H:Hp):PyData->V->Prop
 | .none,v=>v=.non
 | .bool b,v=>v=.bl b
 | .int i,v=>v=.int i
 | .str x,v=>v=.str x
 | .list ds,v=>∃ a xs,v=.ref a/\SqL K H a xs/\aZ K H ds xs
 | .tuple ds,v=>∃ a xs,v=.ref a/\SqT K H a xs/\aZ K H ds xs
 | .dict kvs,v=>kvs = []/\∃ a,v=.ref a/\H a=some (.dK [])
def aZ (K:PySem.W.Frag) (H:Hp):List PyData->List V->Prop
 | [],xs=>xs = []
 | d::ds,xs=>∃ x r,xs=x::r/\Den K H d x/\aZ K H ds r
end
theorem aE.rd {H H':Hp} {a:Addr} {u:HO} (e:aE H H') (h:Rd H a u):Rd H' a u:=by
 rcases h with h | ⟨o,h⟩
 ·exact .inl (e a u h)
 ·exact .inr ⟨o,e a _ h⟩
theorem aE.seqL {K:PySem.W.Frag} {H H':Hp} {a:Addr} {xs:List V} (e:aE H H') (h:SqL K H a xs):SqL K H' a xs:=by
 rcases h with h | h
 ·exact .inl (e.rd h)
 ·exact .inr h
theorem aE.seqT {K:PySem.W.Frag} {H H':Hp} {a:Addr} {xs:List V} (e:aE H H') (h:SqT K H a xs):SqT K H' a xs:=by
 rcases h with h | h
 ·exact .inl (e.rd h)
 ·exact .inr h
theorem aE.new {H:Hp} {p:Addr} {o:HO} (h:H p=none):aE H (upd H p o):=fun b u e=>by rw [aJ (gE e h)]; exact e
mutual
theorem aE.den {K:PySem.W.Frag} {H H':Hp} (e:aE H H'):∀ (d:PyData) (v:V),Den K H d v->Den K H' d v
 | .none,v,h=>by unfold Den at h ⊢; exact h
 | .bool b,v,h=>by unfold Den at h ⊢; exact h
 | .int i,v,h=>by unfold Den at h ⊢; exact h
 | .str x,v,h=>by unfold Den at h ⊢; exact h
 | .list ds,v,h=>by unfold Den at h ⊢; obtain ⟨a,xs,h1,h2,h3⟩:=h; exact ⟨a,xs,h1,e.seqL h2,aE.denAll e ds xs h3⟩
 | .tuple ds,v,h=>by unfold Den at h ⊢; obtain ⟨a,xs,h1,h2,h3⟩:=h; exact ⟨a,xs,h1,e.seqT h2,aE.denAll e ds xs h3⟩
 | .dict kvs,v,h=>by unfold Den at h ⊢; obtain ⟨h1,a,h2,h3⟩:=h; exact ⟨h1,a,h2,e a _ h3⟩
theorem aE.denAll {K:PySem.W.Frag} {H H':Hp} (e:aE H H'):∀ (ds:List PyData) (xs:List V),aZ K H ds xs->aZ K H' ds xs
 | [],xs,h=>by unfold aZ at h ⊢; exact h
 | d::ds,xs,h=>by unfold aZ at h ⊢; obtain ⟨x,r,h1,h2,h3⟩:=h; exact ⟨x,r,h1,aE.den e d x h2,aE.denAll e ds r h3⟩
end
section
variable {K:PySem.W.Frag} {H:Hp}
theorem cS {i:Int} {v:V}:Den K H (.int i) v↔v=.int i:=by unfold Den; exact Iff.rfl
theorem wS {b:Bool} {v:V}:Den K H (.bool b) v↔v=.bl b:=by unfold Den; exact Iff.rfl
theorem kL {v:V}:Den K H .none v↔v=.non:=by unfold Den; exact Iff.rfl
theorem aAv {x:Str} {v:V}:Den K H (.str x) v↔v=.str x:=by unfold Den; exact Iff.rfl
theorem kM {ds:List PyData} {v:V}:Den K H (.list ds) v↔∃ a xs,v=.ref a/\SqL K H a xs/\aZ K H ds xs:=by
 constructor
 ·intro h; unfold Den at h; exact h
 ·intro h; unfold Den; exact h
theorem bV {ds:List PyData} {v:V}:Den K H (.tuple ds) v↔∃ a xs,v=.ref a/\SqT K H a xs/\aZ K H ds xs:=by
 constructor
 ·intro h; unfold Den at h; exact h
 ·intro h; unfold Den; exact h
theorem aCb {kvs:List (PyData×PyData)} {v:V}:Den K H (.dict kvs) v↔kvs = []/\∃ a,v=.ref a/\H a=some (.dK []):=by
 constructor
 ·intro h; unfold Den at h; exact h
 ·intro h; unfold Den; exact h
theorem aY {xs:List V}:aZ K H [] xs↔xs = []:=by unfold aZ; exact Iff.rfl
theorem aS {d:PyData} {ds:List PyData} {xs:List V}:aZ K H (d::ds) xs↔∃ x r,xs=x::r/\Den K H d x/\aZ K H ds r:=by
 constructor
 ·intro h; unfold aZ at h; exact h
 ·intro h; unfold aZ; exact h
theorem aP:∀ {ds:List PyData} {xs:List V},aZ K H ds xs->xs.length=ds.length
 | [],xs,h=>by rw [aY.mp h]; rfl
 | d::ds,xs,h=>by
  obtain ⟨x,r,rfl,_,h3⟩:=aS.mp h
  rw [Bg,Bg,aP h3]
theorem qN:∀ {ds:List PyData} {xs:List V} {i:Nat} {d:PyData},aZ K H ds xs->ds[i]?=some d->∃ x,xs[i]?=some x/\Den K H d x
 | [],_,_,_,_,e=>by simp at e
 | d::ds,xs,0,d',h,e=>by
  obtain ⟨x,r,rfl,h2,_⟩:=aS.mp h
  simp at e; subst e
  exact ⟨x,rfl,h2⟩
 | d::ds,xs,i+1,d',h,e=>by
  obtain ⟨x,r,rfl,_,h3⟩:=aS.mp h
  obtain ⟨y,h4,h5⟩:=qN (i:=i) (d:=d') h3 (by simpa using e)
  exact ⟨y,by simpa using h4,h5⟩
theorem cQ {ds:List PyData} {xs:List V} {i:Nat} {x:V} (h:aZ K H ds xs) (e:xs[i]?=some x):∃ d,ds[i]?=some d/\Den K H d x:=by
 have hl:=aP h
 have hi:i < ds.length:=by rw [<- hl]; exact (Ad.mp e).1
 obtain ⟨y,h1,h2⟩:=qN h (Ae hi)
 rw [e] at h1; cases h1
 exact ⟨_,Ae hi,h2⟩
theorem eX:∀ {ds es:List PyData} {xs ys:List V},aZ K H ds xs->aZ K H es ys->aZ K H (ds++es) (xs++ys)
 | [],es,xs,ys,h,h'=>by rw [aY.mp h]; exact h'
 | d::ds,es,xs,ys,h,h'=>by
  obtain ⟨x,r,rfl,h2,h3⟩:=aS.mp h
  exact aS.mpr ⟨x,r++ys,rfl,h2,eX h3 h'⟩
theorem pB:∀ {ds:List PyData} {xs:List V} (n:Nat),aZ K H ds xs->aZ K H (ds.take n) (xs.take n)
 | _,_,0,_=>by rw [Em,Em]; exact aY.mpr rfl
 | [],xs,n+1,h=>by rw [aY.mp h]; exact aY.mpr rfl
 | d::ds,xs,n+1,h=>by
  obtain ⟨x,r,rfl,h2,h3⟩:=aS.mp h
  exact aS.mpr ⟨x,r.take n,rfl,h2,pB n h3⟩
theorem pC:∀ {ds:List PyData} {xs:List V} (n:Nat),aZ K H ds xs->aZ K H (ds.drop n) (xs.drop n)
 | _,_,0,h=>h
 | [],xs,n+1,h=>by rw [aY.mp h]; exact aY.mpr rfl
 | d::ds,xs,n+1,h=>by
  obtain ⟨x,r,rfl,h2,h3⟩:=aS.mp h
  exact pC n h3
theorem fV:∀ {ns:List Int} {xs:List V},aZ K H (ns.map PyData.int) xs↔xs=ns.map V.int
 | [],xs=>aY
 | n::ns,xs=>by
  rw [Ba,aS]
  constructor
  ·rintro ⟨x,r,rfl,h2,h3⟩
   rw [cS.mp h2,fV.mp h3]
   rfl
  ·intro e
   exact ⟨_,_,e,cS.mpr rfl,fV.mpr rfl⟩
theorem aX {ns:List Int} {v:V}:Den K H (.tuple (ns.map .int)) v↔∃ a,v=.ref a/\SqT K H a (ns.map V.int):=by
 rw [bV]
 constructor
 ·rintro ⟨a,xs,rfl,h1,h2⟩
  rw [fV.mp h2] at h1
  exact ⟨a,rfl,h1⟩
 ·rintro ⟨a,rfl,h⟩
  exact ⟨a,_,rfl,h,fV.mpr rfl⟩
theorem gG {ns:List Int} {v:V}:Den K H (.list (ns.map .int)) v↔∃ a,v=.ref a/\SqL K H a (ns.map V.int):=by
 rw [kM]
 constructor
 ·rintro ⟨a,xs,rfl,h1,h2⟩
  rw [fV.mp h2] at h1
  exact ⟨a,rfl,h1⟩
 ·rintro ⟨a,rfl,h⟩
  exact ⟨a,_,rfl,h,fV.mpr rfl⟩
def iX:PyData->Kd
 | .none=>.non | .bool _=>.bl | .int _=>.int | .str _=>.str | .list _=>.lst | .tuple _=>.tup | .dict _=>.dct
theorem Den.kd {d:PyData} {v:V} (h:Den K H d v):KdV K H v (iX d):=by
 cases d with
 | none=>rw [kL.mp h]; rfl
 | bool b=>rw [wS.mp h]; rfl
 | int i=>rw [cS.mp h]; rfl
 | str x=>rw [aAv.mp h]; rfl
 | list ds=>obtain ⟨a,xs,rfl,h1,_⟩:=kM.mp h; exact .inl ⟨rfl,xs,h1⟩
 | tuple ds=>obtain ⟨a,xs,rfl,h1,_⟩:=bV.mp h; exact .inr (.inl ⟨rfl,xs,h1⟩)
 | dict kvs=>obtain ⟨_,a,rfl,h1⟩:=aCb.mp h; exact .inr (.inr ⟨rfl,[],h1⟩)
end
section
variable {X:Cx} {pins:List (Addr×Obj)} {σ:St} {H:Hp} {s:Shared}
mutual
def cA:PyData->Bool
 | .dict _=>false
 | .list ds=>eS ds
 | .tuple ds=>eS ds
 | _=>true
def eS:List PyData->Bool
 | []=>true
 | d::ds=>cA d && eS ds
end
mutual
theorem Den.reads (I:Inv X pins σ H s):∀ (d:PyData) (v:V) (u:Value),cA d=true->Den X.K H d v->bI v u->∃ as,Reads s.heap u d as
 | .none,v,u,_,h,r=>by rw [kL.mp h] at r; cases r; exact ⟨_,.none⟩
 | .bool b,v,u,_,h,r=>by rw [wS.mp h] at r; cases r; exact ⟨_,.bool b⟩
 | .int i,v,u,_,h,r=>by rw [cS.mp h] at r; obtain ⟨t,rfl⟩:=r; exact ⟨_,.int i t⟩
 | .str x,v,u,_,h,r=>by rw [aAv.mp h] at r; obtain ⟨t,rfl⟩:=r; exact ⟨_,.str x t⟩
 | .list ds,v,u,hn,h,r=>by
  obtain ⟨a,xs,rfl,h1,h2⟩:=kM.mp h
  cases r
  obtain ⟨its,rv,⟨o,n,e,c,_,d⟩,_⟩:=I.list h1
  obtain ⟨as,ra⟩:=aZ.reads I ds xs its (by unfold cA at hn; exact hn) h2 rv
  exact ⟨_,.list e c d (by simpa using ra)⟩
 | .tuple ds,v,u,hn,h,r=>by
  obtain ⟨a,xs,rfl,h1,h2⟩:=bV.mp h
  cases r
  obtain ⟨its,rv,⟨o,e,c,n,d⟩,_⟩:=I.tuple h1
  obtain ⟨as,ra⟩:=aZ.reads I ds xs its (by unfold cA at hn; exact hn) h2 rv
  exact ⟨_,.tuple e c d (by simpa using ra)⟩
 | .dict kvs,v,u,hn,_,_=>by unfold cA at hn; cases hn
theorem aZ.reads (I:Inv X pins σ H s):∀ (ds:List PyData) (xs:List V) (us:List Value),eS ds=true->aZ X.K H ds xs->bB xs us->∃ as,ReadsAll s.heap us ds as
 | [],xs,us,_,h,r=>by rw [aY.mp h] at r; cases r; exact ⟨_,.nil⟩
 | d::ds,xs,us,hn,h,r=>by
  obtain ⟨x,rr,rfl,h2,h3⟩:=aS.mp h
  unfold eS at hn
  rw [Az] at hn
  cases r with
  | cons r1 r2 =>
   obtain ⟨as,ra⟩:=Den.reads I d x _ hn.1 h2 r1
   obtain ⟨bs,rb⟩:=aZ.reads I ds rr _ hn.2 h3 r2
   exact ⟨_,.cons ra rb⟩
end
theorem tN (hg:X.A.guards=some []) (hu:X.A.units+64 < cLine):eT X (.builtin "repr") (fun xs H Q=>∃ d a,xs = [.ref a]/\Den X.K H d (.ref a)/\cA d=true/\d.hasDict=false/\d.showable=true/\d.depth<=60/\d.shown.length<=sizeLine/\Q (.str d.shown) H):=by
 intro pins s σ H xs us Q I r h
 obtain ⟨d,a,rfl,hd,h1,h2,h3,h4,h5,q⟩:=h
 obtain ⟨u,rfl,rx⟩:=eN r
 obtain ⟨as,rd⟩:=Den.reads I d _ _ h1 hd rx
 cases rx
 exact repr_of_reads' rd h3 (fun z=>by rw [h2] at z; cases z) hg (by omega) (fun _ _ e=>e) (fun h' u tk kp=>⟨.str d.shown,H,I.kept kp,⟨_,rfl⟩,q⟩) h5
theorem zD (hu:X.A.units+64 < cLine):OpR X (compareOp .Eq) (fun x y H Q=>∃ d e,Den X.K H d x/\Den X.K H e y/\cA d=true/\cA e=true/\SeqAt.shaped d=true/\SeqAt.shaped e=true/\Q (.bl (PyData.eqv d e)) H):=by
 intro pins s σ H x y v u Q I rx ry h
 obtain ⟨d,e,hd,he,n1,n2,s1,s2,q⟩:=h
 obtain ⟨as,ra⟩:=Den.reads I d x v n1 hd rx
 obtain ⟨bs,rb⟩:=Den.reads I e y u n2 he ry
 exact eq_dataH ra rb s1 s2 hu ⟨.bl _,H,I,rfl,q⟩
theorem zE (hu:X.A.units+64 < cLine):OpR X (compareOp .NotEq) (fun x y H Q=>∃ d e,Den X.K H d x/\Den X.K H e y/\cA d=true/\cA e=true/\SeqAt.shaped d=true/\SeqAt.shaped e=true/\Q (.bl (!PyData.eqv d e)) H):=by
 intro pins s σ H x y v u Q I rx ry h
 obtain ⟨d,e,hd,he,n1,n2,s1,s2,q⟩:=h
 obtain ⟨as,ra⟩:=Den.reads I d x v n1 hd rx
 obtain ⟨bs,rb⟩:=Den.reads I e y u n2 he ry
 exact ne_dataH ra rb s1 s2 hu ⟨.bl _,H,I,rfl,q⟩
theorem aBf:MtR X "tuple.count" (fun x vs H Q=>∃ (a:Addr) (ns:List Int) (n:Int),x=.ref a/\vs = [.int n]/\SqT X.K H a (ns.map V.int)/\Q (.int (ns.count n:Nat)) H):=by
 intro pins s σ H x v vs us Q I rx r h
 obtain ⟨a,ns,n,rfl,rfl,ha,q⟩:=h
 obtain ⟨u,rfl,t,rfl⟩:=eN r
 cases rx
 obtain ⟨its,rv,⟨⟨cls,dd,data,sl⟩,ho,hc,k,hd⟩,hzz⟩:=I.tuple ha
 simp only at hc hd
 subst hc hd
 have hi:IntsAre its ns:=jN rv
 refine call_meets PySem.F.slot_tuple_count ⟨_,ho,rfl⟩ PySem.F.entry_tuple_count (PySem.F.args_tuple_count_2 _ _) (SeqAt.tuple_countAt a its.toArray k dd sl (.int n t) (isInt n)) ⟨ho,fun y hy=>(eq_isInt n t hi y (by simpa using hy)).at _ _,?_⟩
 have e:(its.toArray.toList.countP (isInt n))=ns.count n:=by
  simp only [Cg]
  clear q r ha rv ho hzz
  induction hi with
  | nil=>rfl
  | cons m t' _ ih =>
   rw [Fo,Ca,ih]
   rfl
 rw [e]
 exact ⟨.int _,H,I.tok _,⟨_,rfl⟩,q⟩
end
section
variable {prog:Program} {w:World} {A:Around} {E:Value->Shared->Prop} {s:Shared}
theorem mK {x:Value} {Q:List Value->Shared->Prop}
  (h:∀ R:Result->Shared->Prop,(∀ (s':Shared) (acc:Array Value) (c:Nat),s'.heap.get? s.heap.objs.size=some { cls:=.type "list",data:=.seq acc c }->Q acc.toList s'->R (.ok (.ret (.ref s.heap.objs.size))) s') ->
   wpAny (model prog w) A.in1 (Builtin.List.listExtendWith (.ref s.heap.objs.size) x (.ref s.heap.objs.size))
    (fun fin s'=>match fin with | .done f=>R (.ok f) s' | .again c'=>c'.quiet=true/\codeAny (model prog w) A c' R s') (fun e s'=>R (.error e) s') { s with heap:=s.heap.push { cls:=.type "list",data:=.seq ([]:List Value).toArray } }) :
  wpAny (model prog w) A (collect x) Q E s:=by
 unfold collect
 refine wpAny_bind (wpAny_runValue (codeAny_builtin PySem.F.entry_proto_collect ?_))
 rw [Around.under_plainId PySem.F.plain_proto_collect _]
 show wpAny _ A.in1 (newList [] >>= fun l=>again (.builtin "list.__iadd__" ⟨[l,x],[]⟩)) _ _ s
 refine wpAny_bind (wpAny_newObj_type ?_)
 refine wpAny_pure ⟨plainId_quiet PySem.F.plain_list_iadd _,codeAny_builtin PySem.F.entry_list_iadd ?_⟩
 rw [Around.under_plainId PySem.F.plain_list_iadd _]
 show wpAny _ A.in1 (Builtin.List.listExtendWith (.ref s.heap.objs.size) x (.ref s.heap.objs.size)) _ _ _
 have fin':∀ (s':Shared) (acc:Array Value) (c:Nat),s'.heap.get? s.heap.objs.size=some { cls:=.type "list",data:=.seq acc c }->Q acc.toList s'->wpAny (model prog w) A (match Value.ref s.heap.objs.size with
   | Value.ref a => do
     match (<- load a).data with
      | Data.seq xs _=>pure xs.toList
      | _=>unsupported "internal:collect"
   | _=>unsupported "internal:collect") Q E s':=by
  intro s' acc c e q
  show wpAny _ A (load s.heap.objs.size >>= _) _ _ _
  exact wpAny_bind (wpAny_load e (wpAny_pure q))
 refine wpAny_mono (h (fun r s'=>r=.ok (.ret (.ref s.heap.objs.size))/\∃ acc c,s'.heap.get? s.heap.objs.size=some { cls:=.type "list",data:=.seq acc c }/\Q acc.toList s') (fun s' acc c e q=>⟨rfl,acc,c,e,q⟩)) (fun fin s' h=>?_) (fun e s' h=>?_)
 ·cases fin with
  | done f =>
   obtain ⟨e,acc,c,e2,q⟩:=h
   cases e
   exact fin' s' acc c e2 q
  | again c'=>exact ⟨h.1,codeAny_mono h.2 fun r s'' hr=>by obtain ⟨rfl,acc,c,e2,q⟩:=hr; exact fin' s'' acc c e2 q⟩
 ·exact absurd h.1 (by simp)
theorem sO {r:Addr} {a b:Int} {t u v:Tok} {n:Nat} {Q:List Value->Shared->Prop} (hh:A.handled=none) (hr:IsRange s.heap r a b 1 t u v) (hsmall:Builtin.Range.small a b 1=true)
  (hn:Builtin.Range.rangeSize a b 1=n) (hlen:n<=2^24)
  (h:∀ h' tk vs,(∀ b o,s.heap.get? b=some o->h'.get? b=some o)->IntsAre vs ((List.range n).map fun (i:Nat)=>a+(i:Int))->Q vs { s with heap:=h',toks:=tk }):wpAny (model prog w) A (collect (.ref r)) Q E s:=by
 refine mK fun R hR=>?_
 have hr':IsRange (s.heap.push { cls:=.type "list",data:=.seq ([]:List Value).toArray }) r a b 1 t u v:=Aa _ hr
 refine wpAny_extend_range (s:={ s with heap:=s.heap.push { cls:=.type "list",data:=.seq ([]:List Value).toArray } }) hh hr' hsmall hn hlen s.heap.objs.size (.ref s.heap.objs.size) 0 (Ag _ rfl) fun h' tk acc' c' kp e it=>?_
 refine hR { s with heap:=h',toks:=tk } acc' c' e (h h' tk acc'.toList (fun b o q=>kp b o (As (Ak q)) (Aa _ q)) ?_)
 obtain ⟨hs,hi⟩:=it
 -- the items one by one
 have key:∀ (k:Nat) (l:List Value) (m:Nat),l.length=k->(∀ (j:Nat) (v:Value),l[j]?=some v->∃ t,v=Value.int (a+((m+j:Nat):Int)) t)->IntsAre l ((List.range' m k).map fun (i:Nat)=>a+(i:Int)):=by
  intro k
  induction k with
  | zero=>intro l m hl _; rw [Cq.mp hl]; exact .nil
  | succ k ih =>
   intro l m hl hv
   cases l with
   | nil=>simp at hl
   | cons v l =>
    obtain ⟨t,e⟩:=hv 0 v rfl
    rw [List.range'_succ,Ba,e]
    exact .cons _ t (ih l (m+1) (by simpa using hl) fun j v' hj=>by
     obtain ⟨t',e'⟩:=hv (j+1) v' (by simpa using hj)
     exact ⟨t',by rw [e',show m+(j+1)=m+1+j by omega]⟩)
 have:=key n acc'.toList 0 (by rw [Array.length_toList,hs]) fun j v hj=>by
  obtain ⟨t,e⟩:=hi j v (by simpa using hj)
  exact ⟨t,by rw [e]; first | (congr 1; done) | (congr 1; omega)⟩
 rwa [<- List.range_eq_range'] at this
theorem tO {x:Value} {ns:List Int} {Q:Value->Shared->Prop} (h64:ns.length < 64)
  (hc:∀ Q':List Value->Shared->Prop,(∀ h' tk vs,(∀ b o,s.heap.get? b=some o->h'.get? b=some o)->IntsAre vs ns->Q' vs { s with heap:=h',toks:=tk })->wpAny (model prog w) A.in1 (collect x) Q' E s)
  (h:∀ (h1 h':Heap) tk out ns',(∀ b o,s.heap.get? b=some o->h1.get? b=some o)->(∀ b o,h1.get? b=some o->h'.get? b=some o)->h'.PlainList h1.objs.size out->IntsAre out.toList ns'->ns'.Perm ns->ns'.Pairwise (·<=·)->Q (.ref h1.objs.size) { s with heap:=h',toks:=tk }) :
  wpAny (model prog w) A (call (.builtin "sorted") [x]) Q E s:=by
 refine Calls.call_function_entry kind_sorted plain_sorted entry_sorted (args_sorted1 _) ?_
 unfold Builtin.«sorted»
 refine wpAny_bind (m:=checkCount "sorted" 1 1 _) (wpAny_pure ?_)
 refine wpAny_bind (hc _ fun h1 tk vs kp hi=>?_)
 have hlen:=hi.length
 refine wpAny_bind (wpAny_newList ?_ (by rw [sizeLine_eq]; omega))
 have hoL:(h1.push (seqObj "list" vs.toArray 0)).get? h1.objs.size=some (seqObj "list" vs.toArray 0):=Ag _ rfl
 refine wpAny_bind (wpAny_holding (wpAny_call_entry slot_list_sort ⟨_,hoL,rfl⟩ entry_list_sort (list_sort_tree hoL hi (by omega) fun out ns' a1 a2 a3=>⟨_,rfl,?_⟩) (args_list_sort _)))
 refine wpAny_pure ⟨_,rfl,?_⟩
 obtain ⟨e,he⟩:=sortedHeap_at (out:=out) hoL
 refine h h1 _ tk out ns' kp (fun b o q=>?_) ⟨e,he⟩ a1 a2 a3
 rw [sortedHeap_old (As (Ak q)) (by rw [size_push']; exact Bz (Ak q))]
 exact Aa _ q
theorem sP {x:Value} {ns:List Int} {b:Bool} {Q:Value->Shared->Prop} (h64:ns.length < 64)
  (hc:∀ Q':List Value->Shared->Prop,(∀ h' tk vs,(∀ b o,s.heap.get? b=some o->h'.get? b=some o)->IntsAre vs ns->Q' vs { s with heap:=h',toks:=tk })->wpAny (model prog w) A.in1 (collect x) Q' E s)
  (h:∀ (h1 h':Heap) tk out ns',(∀ b o,s.heap.get? b=some o->h1.get? b=some o)->(∀ b o,h1.get? b=some o->h'.get? b=some o)->h'.PlainList h1.objs.size out->IntsAre out.toList ns'->ns'.Perm ns->Ordered b ns'->Q (.ref h1.objs.size) { s with heap:=h',toks:=tk }) :
  wpAny (model prog w) A (call (.builtin "sorted") [x] [(Str.ofString "reverse",.bool b)]) Q E s:=by
 refine call_function_entry_kw kind_sorted plain_sorted entry_sorted (args_sorted_rev _ _) ?_
 unfold Builtin.«sorted»
 refine wpAny_bind (m:=checkCount "sorted" 1 1 _) (wpAny_pure ?_)
 refine wpAny_bind (hc _ fun h1 tk vs kp hi=>?_)
 have hlen:=hi.length
 refine wpAny_bind (wpAny_newList ?_ (by rw [sizeLine_eq]; omega))
 have hoL:(h1.push (seqObj "list" vs.toArray 0)).get? h1.objs.size=some (seqObj "list" vs.toArray 0):=Ag _ rfl
 refine wpAny_bind (wpAny_holding (wpAny_call_entry_kw slot_list_sort ⟨_,hoL,rfl⟩ entry_list_sort (list_sort_tree_rev hoL hi (by omega) fun out ns' a1 a2 a3=>⟨_,rfl,?_⟩) (args_list_sort_rev _ _)))
 refine wpAny_pure ⟨_,rfl,?_⟩
 obtain ⟨e,he⟩:=sortedHeap_at (out:=out) hoL
 refine h h1 _ tk out ns' kp (fun b o q=>?_) ⟨e,he⟩ a1 a2 a3
 rw [sortedHeap_old (As (Ak q)) (by rw [size_push']; exact Bz (Ak q))]
 exact Aa _ q
end
theorem jZ (r:Addr) (a b:Int) (t u v:Tok) (n:Nat) (hsmall:Builtin.Range.small a b 1=true) (hn:Builtin.Range.rangeSize a b 1=n) (hlen:n<=2^24) :
  Meets (Builtin.«tuple.__new__» ⟨[.type "tuple",.ref r],[]⟩)
   (fun A R s=>A.handled=none/\IsRange s.heap r a b 1 t u v/\∀ (h':Heap) tk (vs:List Value),(∀ b o',s.heap.get? b=some o'->h'.get? b=some o')->IntsAre vs ((List.range n).map fun (i:Nat)=>a+(i:Int)) ->
    R (.ok (.ret (.ref h'.objs.size))) { s with heap:=h'.push { cls:=.type "tuple",data:=.seq vs.toArray },toks:=tk }) :=
 .of_wp fun prog w A R s h=>by
  obtain ⟨hp,g,d,tk,os⟩:=s; obtain ⟨hh,ht,h⟩:=h
  have hsub:=sub_tuple_self
  have hinit:=init_tuple_lookup
  have hmh:=madeHere_tuple
  have hT:Shared.TypeIs ⟨hp,g,d,tk,os⟩ (.ref r) "range" := ⟨_,ht,rfl⟩
  wp_walk using wpAny_loadPart' ht,wpAny_typeOf hT,sO (A:=A.in1) (s:=⟨hp,g,d,tk,os⟩) hh ht hsmall hn hlen
  intro h' tk' vs hk hi
  show wpAny _ _ (Builtin.Tuple.tupleExact vs.toArray >>= fun v=>ret v) _ _ _
  unfold Builtin.Tuple.tupleExact
  have hl:=hi.length
  rw [Ac,Co] at hl
  refine wpAny_bind (wpAny_newObj_type ?_ (by show vs.toArray.size<=sizeLine; rw [Aj,sizeLine_eq]; omega))
  refine wpAny_pure ⟨_,rfl,?_⟩
  exact h h' tk' vs hk hi
section
variable {X:Cx}
theorem wT:eT X (.type "range") (fun xs H Q=>∃ j,xs = [.int j]/\∀ p,H p=none->Q (.ref p) (upd H p (.rng 0 j))):=by
 intro pins s σ H xs us Q I r h
 obtain ⟨j,rfl,q⟩:=h
 obtain ⟨u,rfl,t,rfl⟩:=eN r
 refine call_range_1 ⟨.ref s.heap.objs.size,_,I.laid (fun b o e=>Aa _ e) (Ai _) ?_,rfl,q _ (I.hok.fresh (Ai _))⟩
 exact ⟨_,_,_,Ag _ rfl⟩
def cG (n:Nat):List Int:=(List.range n).map fun (i:Nat)=>(i:Int)
theorem qO (hc:X.calm=true):eT X (.type "tuple") (fun xs H Q=>∃ (a:Addr) (n:Nat),xs = [.ref a]/\H a=some (.rng 0 n)/\n<=1000/\∀ p H',aE H H'->SqT X.K H' p ((cG n).map V.int)->Q (.ref p) H'):=by
 intro pins s σ H xs us Q I r h
 obtain ⟨a,n,rfl,ha,hn,q⟩:=h
 obtain ⟨u,rfl,rx⟩:=eN r
 cases rx
 obtain ⟨t,u,v,e⟩:=I.hok a _ ha
 have hsz:Builtin.Range.rangeSize 0 (n:Int) 1=(n:Int):=by rw [rangeSize_one]; split <;> omega
 have hsm:Builtin.Range.small 0 (n:Int) 1=true:=small_one (by omega) (by omega) (by omega) (by omega)
 have hn24:n<=2^24:=At hn (by decide)
 refine callType_new PySem.F.called_tuple (by decide) (PySem.F.typeCall_tuple_1 _) (PySem.F.newCall_tuple_1 _) (fun obj=>PySem.F.args_object_init_2 obj _) PySem.F.entry_tuple_new
  (jZ a 0 n t u v n hsm hsz hn24) ⟨I.ok.hd hc,e,fun h' tk vs kp hi=>⟨⟨_,Ag _ rfl,rfl⟩,?_⟩⟩
 have I1:Inv X pins σ H { s with heap:=h',toks:=tk }:=I.kept kp
 have e0:((List.range n).map fun (i:Nat)=>(0:Int)+(i:Int))=cG n:=by unfold cG; exact Dz fun i _=>Fw _
 rw [e0] at hi
 have hv:=jB hi
 have hl:(cG n).length=n:=by unfold cG; simp
 have hf:=I1.hok.fresh (Ai _)
 have I2:Inv X pins σ (upd H h'.objs.size (.tup ((cG n).map V.int))) { s with heap:=h'.push { cls:=.type "tuple",data:=.seq vs.toArray },toks:=tk } :=
  I1.laid (t':=tk) (fun b o e=>Aa _ e) (Ai _) (show bR X.prog X.w _ _ _ (.tup _) from ⟨by rw [Ac,hl,sizeLine_eq]; omega,vs,0,hv,Ag _ rfl⟩)
 exact ⟨.ref h'.objs.size,_,I2,rfl,q _ _ (aE.new hf) (SqT.of aB)⟩
theorem sQ {x:Expr} {p pos kpos:Pos} {tx:TE} {cj cpos} (hg:Gl X "sorted") (hm:X.mg "sorted" = none) (hx:PE X x tx)
  (he:starEach [x] X.env = [(false,eval x X.env)]:=by rfl) :
  PE X (.Call (.Name "sorted" p) [x] [⟨some "reverse",.Constant (.bool true) cj cpos,kpos⟩] pos) (fun σ H Q=>tx σ H fun v H1=>∃ (a:Addr) (ns:List Int),v=.ref a/\(SqL X.K H1 a (ns.map V.int)∨SqT X.K H1 a (ns.map V.int))/\ns.length < 64 /\
   ∀ (p:Addr) (ms:List Int),H1 p=none->ms.Perm ns->ms.Pairwise (·≥·)->Q (.ref p) (upd H1 p (.lst (ms.map V.int)))):=by
 intro pins s σ H Q I h
 refine wpAny_Call_Name_kw (iU (u:=.builtin "sorted") I hg hm (by decide +kernel) ?_)
 have hpa:PA X [x] (wM tx aB5):=aA hx aC he
 refine callWith_kw (thn (hpa pos pins s σ H (fun vs H1=>match vs with
   | [v]=>∃ (a:Addr) (ns:List Int),v=.ref a/\(SqL X.K H1 a (ns.map V.int)∨SqT X.K H1 a (ns.map V.int))/\ns.length < 64/\∀ (p:Addr) (ms:List Int),H1 p=none->ms.Perm ns->ms.Pairwise (·≥·)->Q (.ref p) (upd H1 p (.lst (ms.map V.int)))
   | _=>False) I h) fun us s1 ⟨vs,H1,I1,r1,q1⟩=>?_) (by rw [he]; rfl) (by rw [he]; rfl)
 have hk:PK X [⟨some "reverse",.Constant (.bool true) cj cpos,kpos⟩] (wM (tC (.bl true)) aB5):=aDz dM aEO
 refine thn (hk pos pins s1 σ H1 (fun zs H2=>zs = [.bl true]/\H2=H1) I1 ⟨rfl,rfl⟩) fun ws s2 hx9=>?_
 obtain ⟨zs,H2,I2,rz,ez,eH⟩:=hx9
 subst ez eH
 obtain ⟨w1,rfl,rw1⟩:=eN rz
 cases rw1
 match vs,r1,q1 with
 | [v],r1,q1 =>
  obtain ⟨a,ns,rfl,ha,h64,q⟩:=q1
  obtain ⟨u,rfl,rx⟩:=eN r1
  cases rx
  show wpAny (model X.prog X.w) X.A (call (.builtin "sorted") [.ref a] [(Str.ofString "reverse",.bool true)]) _ _ _
  refine sP h64 (fun Q' hQ'=>?_) fun h1 h' tk out ns' k1 k2 pl hi hp ho=>?_
  ·rcases ha with ha | ha
   ·obtain ⟨its,rv,⟨o,n,e,c,_,d⟩,hz⟩:=I2.list ha
    have hl:=rv.length
    exact wpAny_collect_seq a (.inl rfl) e c d (fun h' kp=>hQ' h' s2.toks _ kp (by simpa using jN rv)) (by rw [Aj,<- hl]; exact hz)
   ·obtain ⟨its,rv,⟨o,e,c,n,d⟩,hz⟩:=I2.tuple ha
    have hl:=rv.length
    exact wpAny_collect_seq a (.inr rfl) e c d (fun h' kp=>hQ' h' s2.toks _ kp (by simpa using jN rv)) (by rw [Aj,<- hl]; exact hz)
  ·have J1:Inv X pins σ H2 { s2 with heap:=h1,toks:=tk }:=I2.kept k1
   have hf:=J1.hok.fresh (Ai _)
   have hl:=hp.length_eq
   obtain ⟨n,e⟩:=pl
   have J2:Inv X pins σ (upd H2 h1.objs.size (.lst (ns'.map V.int))) { s2 with heap:=h',toks:=tk } :=
    J1.laid (t':=tk) k2 (Ai _) (show bR X.prog X.w _ _ _ (.lst _) from ⟨by rw [Ac,hl,sizeLine_eq]; omega,out.toList,n,jB hi,by simpa using e⟩)
   exact ⟨.ref h1.objs.size,_,J2,rfl,q _ ns' hf hp ho⟩
 | [],_,q1=>exact q1.elim
 | _::_::_,_,q1=>exact q1.elim
end
def tab (L:Bool) (ns:List Nat):SetTable:={ mask:=7,place:=ns.toArray,dummies:=#[],finger:=0,led:=L,moves:=0,plain:=true }
def bS (l:List (Nat×Tok)):Array (Int×Value):=(l.map fun p=>((p.1:Int),Value.int (p.1:Int) p.2)).toArray
theorem fs0:∀ (L:Bool) (k:Fin 8),(tab L []).freeSlot ((k.val:Nat):Int)=some (k.val,false):=by decide
theorem fs1:∀ (L:Bool) (k j:Fin 8),k≠j->(tab L [k.val]).freeSlot ((j.val:Nat):Int)=some (j.val,false):=by decide +kernel
theorem pt0:∀ (L:Bool) (k:Fin 8),(tab L []).put k.val=(tab L [k.val],0):=by decide
theorem pt1:∀ (L:Bool) (k j:Fin 8),k < j->(tab L [k.val]).put j.val=(tab L [k.val,j.val],1):=by decide +kernel
theorem pt2:∀ (L:Bool) (k j:Fin 8),j < k->(tab L [k.val]).put j.val=(tab L [j.val,k.val],0):=by decide +kernel
theorem aEp:∀ k:Fin 8,hashInt ((k.val:Nat):Int)=((k.val:Nat):Int):=by decide +kernel
theorem ft1:∀ (L:Bool) (k:Fin 8),(tab L [k.val]).fits 1=true:=by decide
theorem ft2:∀ (L:Bool) (k j:Fin 8),(tab L [k.val,j.val]).fits 2=true:=by decide +kernel
theorem tf1:∀ (L:Bool) (k:Fin 8),(tab L [k.val]).tooFull=false:=by decide
theorem tf2:∀ (L:Bool) (k j:Fin 8),(tab L [k.val,j.val]).tooFull=false:=by decide +kernel
theorem aGi (L:Bool) (k:Nat) (t:Tok) (hk:k < 8):layNew (tab L []) (bS []) (k:Int) (.int k t)=(bS [(k,t)],tab L [k],false,false):=by
 have e:=fs0 L ⟨k,hk⟩
 have e2:=pt0 L ⟨k,hk⟩
 have e3:=ft1 L ⟨k,hk⟩
 simp only at e e2 e3
 unfold layNew
 rw [e]
 dsimp only
 rw [e2]
 dsimp only
 have e4:SetTable.insertAt (bS []) 0 ((k:Int),Value.int k t)=bS [(k,t)]:=rfl
 rw [e4]
 show (bS [(k,t)],(tab L [k]).orStandIn 1,false,!(tab L [k]).fits 1)=_
 unfold SetTable.orStandIn
 rw [e3]
 rfl
theorem aGj (L:Bool) (k j:Nat) (t u:Tok) (hk:k < 8) (hj:j < 8) (h:k < j):layNew (tab L [k]) (bS [(k,t)]) (j:Int) (.int j u)=(bS [(k,t),(j,u)],tab L [k,j],false,false):=by
 have e:=fs1 L ⟨k,hk⟩ ⟨j,hj⟩ (by intro z; have:=Fin.mk.inj z; omega)
 have e2:=pt1 L ⟨k,hk⟩ ⟨j,hj⟩ h
 have e3:=ft2 L ⟨k,hk⟩ ⟨j,hj⟩
 simp only at e e2 e3
 unfold layNew
 rw [e]
 dsimp only
 rw [e2]
 dsimp only
 have e4:SetTable.insertAt (bS [(k,t)]) 1 ((j:Int),Value.int j u)=bS [(k,t),(j,u)]:=rfl
 rw [e4]
 show (bS [(k,t),(j,u)],(tab L [k,j]).orStandIn 2,false,!(tab L [k,j]).fits 2)=_
 unfold SetTable.orStandIn
 rw [e3]
 rfl
theorem aGk (L:Bool) (k j:Nat) (t u:Tok) (hk:k < 8) (hj:j < 8) (h:j < k):layNew (tab L [k]) (bS [(k,t)]) (j:Int) (.int j u)=(bS [(j,u),(k,t)],tab L [j,k],false,false):=by
 have e:=fs1 L ⟨k,hk⟩ ⟨j,hj⟩ (by intro z; have:=Fin.mk.inj z; omega)
 have e2:=pt2 L ⟨k,hk⟩ ⟨j,hj⟩ h
 have e3:=ft2 L ⟨j,hj⟩ ⟨k,hk⟩
 simp only at e e2 e3
 unfold layNew
 rw [e]
 dsimp only
 rw [e2]
 dsimp only
 have e4:SetTable.insertAt (bS [(k,t)]) 0 ((j:Int),Value.int j u)=bS [(j,u),(k,t)]:=rfl
 rw [e4]
 show (bS [(j,u),(k,t)],(tab L [j,k]).orStandIn 2,false,!(tab L [j,k]).fits 2)=_
 unfold SetTable.orStandIn
 rw [e3]
 rfl
def SX (L:Bool) (h:Heap) (a:Addr) (l:List (Nat×Tok)):Prop:=∃ o ep,h.get? a=some o/\o.ExactSet/\o.data=.set (bS l) ep (tab L (l.map (·.1)))
section
variable {prog:Program} {w:World} {A:Around} {E:Value->Shared->Prop} {s:Shared} {L:Bool} {a:Addr}
theorem zF (prog:Program) (w:World) (l:List (Nat×Tok)) (h8:∀ p∈l,p.1 < 8):ElemsOf (intKind prog w) (bS l).toList:=by
 intro e he
 unfold bS at he
 rw [Cg] at he
 obtain ⟨p,hp,rfl⟩:=Bd.mp he
 refine ⟨⟨(p.1:Int),?_,?_⟩,rfl⟩
 ·exact intKind_is _ _ _ _
 ·exact (aEp ⟨p.1,h8 p hp⟩).symm
theorem aCc {l l':List (Nat×Tok)} {k:Nat} {t:Tok} {Q:Bool->Shared->Prop} (hS:SX L s.heap a l) (h8:∀ p∈l,p.1 < 8) (hk:k < 8) (hf:(tab L (l.map (·.1))).fits l.length=true) (hlen:l.length<=1)
  (hnew:(∀ p∈l,p.1≠k)->layNew (tab L (l.map (·.1))) (bS l) (k:Int) (.int k t)=(bS l',tab L (l'.map (·.1)),false,false)/\(tab L (l'.map (·.1))).tooFull=false/\l'.length<=2)
  (hQ:∀ h' b,Heap.SameBut a s.heap h'->((∃ p∈l,p.1=k)->SX L h' a l)->((∀ p∈l,p.1≠k)->SX L h' a l')->Q b { s with heap:=h',toks:=s.toks+1 }) :
  wpAny (model prog w) A (setAdd a (.int (k:Int) t)) Q E s:=by
 obtain ⟨o,ep,ho,hex,hd⟩:=hS
 unfold setAdd
 refine wpAny_holding (wpAny_bind ((intKind prog w).pyHash (k:=(k:Int)) (intKind_is _ _ _ _) ?_))
 have hh:(intKind prog w).hash (k:Int)=(k:Int):=aEp ⟨k,hk⟩
 have hel:=zF prog w l h8
 have hsz:(bS l).size=l.length:=by unfold bS; rw [Aj,Ac]
 have hfit:(tab L (l.map (·.1))).fits (bS l).size=true:=by rw [hsz]; exact hf
 have hscan:byScan (.int (k:Int) t) (bS l)=true:=byScan_of (knd:=intKind prog w) rfl (by rw [hsz]; unfold scanBound; omega) hel
 unfold setAddHashed setAddHashedIn
 refine wpAny_holding (wpAny_bind (wpAny_setState_of (s:={ s with toks:=s.toks+1 }) ho hd hfit ?_))
 dsimp only
 rw [hscan]
 simp only [↓reduceIte]
 unfold setAddByScan
 refine wpAny_bind ?_
 refine wpAny_bind (wpAny_rule ?_)
 refine wpAny_bind (wpAny_setScan_of (knd:=intKind prog w) (k:=(k:Int)) (intKind_is _ _ _ _) ho hd hfit hel ?_)
 cases hr:List.findIdx? (fun e=>(intKind prog w).is (k:Int) e.2) (bS l).toList with
 | some j =>
  dsimp only
  obtain ⟨hj,hpj,_⟩:=Ed.mp hr
  have hthere:∃ p∈l,p.1=k:=by
   have el:(bS l).toList=l.map fun p=>((p.1:Int),Value.int (p.1:Int) p.2):=by unfold bS; rw [Cg]
   have hm:(bS l).toList[j]∈l.map fun p=>((p.1:Int),Value.int (p.1:Int) p.2):=by rw [<- el]; exact Ct hj
   obtain ⟨p,hp,e⟩:=Bd.mp hm
   refine ⟨p,hp,?_⟩
   rw [<- e] at hpj
   obtain ⟨t',e2⟩:=Value.isInt_shape (show Value.isInt (k:Int) (Value.int (p.1:Int) p.2)=true from hpj)
   have e3:(p.1:Int)=(k:Int):=by injection e2
   exact Int.ofNat.inj e3
  refine wpAny_pure (wpAny_pure ?_)
  exact hQ s.heap false (Heap.SameBut.refl a s.heap) (fun _=>⟨o,ep,ho,hex,hd⟩) fun hn=>by
   obtain ⟨p,hp,e⟩:=hthere
   exact absurd e (hn p hp)
 | none =>
  dsimp only
  have hno:∀ p∈l,p.1≠k:=fun p hp e=>by
   have:=Fb.mp hr ((p.1:Int),Value.int (p.1:Int) p.2) (by unfold bS; rw [Cg]; exact Bd.mpr ⟨p,hp,rfl⟩)
   rw [e] at this
   have h2:(intKind prog w).is (k:Int) (Value.int (k:Int) p.2)=true:=intKind_is _ _ _ _
   simp only at this
   rw [h2] at this
   cases this
  obtain ⟨e1,e2,e3⟩:=hnew hno
  rw [hh,e1]
  dsimp only
  refine wpAny_bind (wpAny_pure ?_)
  rw [if_pos (show (tab L (l'.map (·.1))).plain=true from rfl),hashByValue_scannable 8 (x:=.int (k:Int) t) rfl]
  refine wpAny_bind (wpAny_pure ?_)
  rw [if_pos (show plainKind (.int (k:Int) t)=true from rfl)]
  have hsz':(bS l').size=l'.length:=by unfold bS; rw [Aj,Ac]
  refine wpAny_bind (wpAny_storeSet_of (s:={ s with toks:=s.toks+1 }) ho hd ?_ (by rw [hsz',sizeLine_eq]; omega))
  rw [e2]
  simp only [Gj,Dp,Be,if_false]
  refine wpAny_pure (wpAny_pure ?_)
  refine hQ (s.heap.update a (Obj.putSet (bS l') (tab L (l'.map (·.1))))) true (Heap.SameBut.update _ _ _) (fun ⟨p,hp,e⟩=>absurd e (hno p hp)) fun _=>⟨{ o with data:=.set (bS l') (ep+1) (tab L (l'.map (·.1))) },ep+1,?_,hex,rfl⟩
  have:=Bs (Obj.putSet (bS l') (tab L (l'.map (·.1)))) ho (by rw [putSet_of _ _ hd]; rfl)
  rw [putSet_of _ _ hd] at this
  exact this
end
section
variable {prog:Program} {w:World} {A:Around} {E:Value->Shared->Prop} {s:Shared}
abbrev Led (w:World):Bool:=!(w.params.followText "set-order")
theorem iE (a:Value) {Q₁:Value->Shared->Prop}
  (h:Q₁ (.ref s.heap.objs.size) { s with heap:=s.heap.push { cls:=.type "set",dict:=none,data:=.set #[] 0 (.fresh 0 0 (Led w)) } }) :
  codeAny (model prog w) A (.call (.builtin "set.__new__") ⟨[.type "set",a],[]⟩) (wants Q₁ E) s:=by
 refine codeAny_of_tree ?_
 show wpAny _ A.in1 (do checkBuiltinCall "set.__new__" ⟨[.type "set",a],[]⟩; again (.builtin "set.__new__" ⟨[.type "set",a],[]⟩)) _ _ s
 refine wpAny_bind (wpAny_of_eq (PySem.F.newCall_set_1 a) (wpAny_pure ⟨plainId_quiet PySem.F.plain_set_new _,codeAny_builtin PySem.F.entry_set_new ?_⟩))
 rw [Around.under_plainId PySem.F.plain_set_new _]
 unfold Builtin.«set.__new__» Builtin.Frozenset.newClass
 have hsub:=sub_set_self
 obtain ⟨hp,g,d,tk,os⟩:=s
 dsimp only
 wp_walk
 refine wpAny_askSetting (wpAny_pure ?_)
 dsimp only
 simp only [newObj]
 refine wpAny_bind (wpAny_alloc (wpAny_pure ?_))
 exact wpAny_pure h
theorem nH {I S:Addr} {fp wr:List Addr} {n i:Nat} {P:Nat->Value->Prop} {St:Nat->Heap->Prop} {R:Result->Shared->Prop} (W:Walks prog w A.in1 I fp wr n P St) (hi:i < n) (st:St i s.heap)
  (h:∀ v h' tk,P i v->St (i+1) h'->(∀ b o,b∉wr->s.heap.get? b=some o->h'.get? b=some o) ->
   wpAny (model prog w) A.in1 (setAdd S v) (fun _ s2=>codeAny (model prog w) A (.builtin "set.update.loop" ⟨[.ref S,.ref I],[]⟩) R s2) (fun e s'=>R (.error e) s') { s with heap:=h',toks:=tk }) :
  codeAny (model prog w) A (.builtin "set.update.loop" ⟨[.ref S,.ref I],[]⟩) R s:=by
 refine codeAny_builtin PyProof.Rows.F.entry_set_update_loop ?_
 rw [Around.under_plainId PyProof.Rows.F.plain_set_update_loop _]
 show wpAny _ A.in1 (pyNext (.ref I) >>= _) _ _ s
 refine wpAny_bind (W.item i s _ _ hi st fun v h' tk hP hst' hk=>?_)
 show wpAny _ A.in1 (holding [v] (setAdd S v) >>= _) _ _ _
 refine wpAny_bind (wpAny_holding (wpAny_mono (h v h' tk hP hst' hk) (fun _ s2 q=>?_) fun _ _ e=>e))
 exact wpAny_pure ⟨plainId_quiet PyProof.Rows.F.plain_set_update_loop _,q⟩
theorem qP {I S:Addr} {fp wr:List Addr} {n:Nat} {P:Nat->Value->Prop} {St:Nat->Heap->Prop} {R:Result->Shared->Prop} (W:Walks prog w A.in1 I fp wr n P St) (st:St n s.heap)
  (h:∀ h' tk,(∀ b o,b∉wr->s.heap.get? b=some o->h'.get? b=some o)->R (.ok (.ret .none)) { s with heap:=h',toks:=tk }) :
  codeAny (model prog w) A (.builtin "set.update.loop" ⟨[.ref S,.ref I],[]⟩) R s:=by
 refine codeAny_builtin PyProof.Rows.F.entry_set_update_loop ?_
 rw [Around.under_plainId PyProof.Rows.F.plain_set_update_loop _]
 show wpAny _ A.in1 (pyNext (.ref I) >>= _) _ _ s
 refine wpAny_bind (W.done s _ _ st fun h' tk hk=>?_)
 show wpAny _ A.in1 (ret Value.none) _ _ _
 exact wpAny_pure (h h' tk hk)
def two (a b:Nat) (t u:Tok):List (Nat×Tok):=if a=b then [(a,t)] else if a < b then [(a,t),(b,u)] else [(b,u),(a,t)]
theorem SX.keep {L:Bool} {h h':Heap} {a:Addr} {l:List (Nat×Tok)} (x:SX L h a l) (k:∀ o,h.get? a=some o->h'.get? a=some o):SX L h' a l:=by
 obtain ⟨o,ep,e,r⟩:=x
 exact ⟨o,ep,k o e,r⟩
set_option maxHeartbeats 3200000 in
theorem uW {l:Addr} {a b:Nat} {t u:Tok} {Q:Value->Shared->Prop} (hh:A.handled=none) (hl:s.heap.IsList l #[.int (a:Int) t,.int (b:Int) u]) (ha:a < 8) (hb:b < 8)
  (h:∀ (h':Heap) (tk:Nat),SX (Led w) h' s.heap.objs.size (two a b t u)->(∀ b o,b < s.heap.objs.size->s.heap.get? b=some o->h'.get? b=some o)->Q (.ref s.heap.objs.size) { s with heap:=h',toks:=tk }) :
  wpAny (model prog w) A (call (.type "set") [.ref l]) Q E s:=by
 obtain ⟨c,tl,hmro⟩:=PySem.F.called_set.mro
 have hmade:=PySem.F.called_set.made
 have hsub:=PySem.F.called_set.sub
 refine wpAny_call (codeAny_of_tree ?_)
 show wpAny _ _ (callAny (.type "set") _) _ _ _
 refine wpAny_pure ⟨Code.quiet_builtin _ (by decide +kernel),codeAny_builtin PySem.F.entry_type_call ?_⟩
 rw [Around.under_plain (weight_type_call_type "set" [.ref l] []) rfl]
 have h1:=PySem.F.called_set.notType
 have h2:=PySem.F.called_set.canCreate
 have hct:=PySem.F.typeCall_set_1 (.ref l)
 repeat (any_goals (first | assumption | wp_step))
 refine codeAny_mono (iE (.ref l) (E:=E) (Q₁:=fun obj s₁=>obj=.ref s.heap.objs.size/\s₁={ s with heap:=s.heap.push { cls:=.type "set",dict:=none,data:=.set #[] 0 (.fresh 0 0 (Led w)) } }) ⟨rfl,rfl⟩) fun r s₁ hr=>?_
 cases r with
 | error e=>exact hr
 | ok fl =>
  cases fl with
  | ret obj =>
   obtain ⟨rfl,rfl⟩:=hr
   generalize hled:Led w=led at h ⊢
   have hS:(s.heap.push { cls:=.type "set",dict:=none,data:=.set #[] 0 (.fresh 0 0 led) }).get? s.heap.objs.size=some { cls:=.type "set",dict:=none,data:=.set #[] 0 (.fresh 0 0 led) }:=Ag _ rfl
   have hT:Shared.TypeIs { s with heap:=s.heap.push { cls:=.type "set",dict:=none,data:=.set #[] 0 (.fresh 0 0 led) } } (.ref s.heap.objs.size) "set" := ⟨_,hS,rfl⟩
   have hli:=PySem.F.called_set.init.lookup
   have hbi:=PySem.F.called_set.init.bind (.ref s.heap.objs.size)
   repeat (any_goals (first | assumption | wp_step))
   refine codeAny_mono (codeAny_call_builtin (R:=wants (fun r s₂=>r=.none/\∃ h' tk,s₂={ s with heap:=h',toks:=tk }/\SX led h' s.heap.objs.size (two a b t u) /\
     (∀ b o,b < s.heap.objs.size->s.heap.get? b=some o->h'.get? b=some o)) E) PySem.F.called_set.init.plain PySem.F.entry_set_init (check_set_init_1 hT ?_)) fun r₂ s₂ hr₂=>?_
   ·obtain ⟨ol,hol,hcl,nl,hdl⟩:=hl
    obtain ⟨ocls,odict,odata,oslots⟩:=ol
    simp only at hcl hdl
    subst hcl; subst hdl
    have hol':(s.heap.push { cls:=.type "set",dict:=none,data:=.set #[] 0 (.fresh 0 0 led) }).get? l=some { cls:=.type "list",dict:=odict,data:=.seq #[.int (a:Int) t,.int (b:Int) u] nl,slots:=oslots }:=Aa _ hol
    have hsls:=PySem.F.sub_list_set
    have hslf:=PySem.F.sub_list_frozenset
    have hne:(Value.type "list" == Value.type "dict")=false:=by decide
    have hl1:(s.heap.push { cls:=.type "set",dict:=none,data:=.set #[] 0 (.fresh 0 0 led) }).IsList l #[.int (a:Int) t,.int (b:Int) u]:=⟨_,hol',rfl,nl,rfl⟩
    unfold Builtin.«set.__init__» noKeywords Builtin.Frozenset.updateFrom
    generalize hPI:pyIter=PI
    wp_walk
    subst hPI
    refine wpAny_pyIter_list hl1 ?_
    refine wpAny_bind (wpAny_runValue ?_)
    have hlS:l < s.heap.objs.size:=Ak hol
    have hh3:A.in1.in1.in1.handled=none:=by simp [hh]
    generalize hH1:s.heap.push { cls:=.type "set",dict:=none,data:=.set #[] 0 (.fresh 0 0 led) }=H1 at *
    have szH1:H1.objs.size=s.heap.objs.size+1:=by rw [<- hH1,Bj]
    have hneI:l≠H1.objs.size:=by rw [szH1]; exact As (Bz hlS)
    have W:=Walks.list (prog:=prog) (w:=w) hh3 H1.objs.size l hneI #[.int (a:Int) t,.int (b:Int) u]
    generalize hS0:s.heap.objs.size=S at *
    have SI:S≠H1.objs.size:=by omega
    have SXk:∀ {h h':Heap} {ll:List (Nat×Tok)},SX led h S ll->(∀ b o,b∉[H1.objs.size]->h.get? b=some o->h'.get? b=some o)->SX led h' S ll:=fun x k=>x.keep fun o e=>k S o (by simpa using SI) e
    have x0:SX led (H1.push { cls:=.type "list_iterator",data:=.fields #[.ref l,.int 0 0] }) S []:=⟨_,0,Aa _ hS,⟨rfl,rfl,rfl⟩,rfl⟩
    have lS:l≠S:=As hlS
    refine nH W (i:=0) (by show 0 < 2; decide) ⟨⟨_,Ag _ rfl,rfl,rfl⟩,hl1.push _⟩ fun v h2 tk2 hv2 st2 k2=>?_
    have hv2':v=.int (a:Int) t:=(Option.some.inj (show some (Value.int (a:Int) t)=some v from hv2)).symm
    subst hv2'
    refine aCc (l:=[]) (l':=[(a,t)]) (SXk x0 k2) (fun p hp=>by cases hp) ha rfl (by decide) (fun _=>⟨aGi led a t ha,tf1 led ⟨a,ha⟩,by show 1<=2; decide⟩) fun h3 _ sb3 _ x3=>?_
    have x3':=x3 fun p hp=>by cases hp
    have st3:h3.IsListIter H1.objs.size l 1/\h3.IsList l #[.int (a:Int) t,.int (b:Int) u]:=W.frame _ _ _ st2 fun c hc o e=>(sb3.2 c (by
     rcases Am.mp hc with z | z
     ·rw [z]; exact Ne.symm SI
     ·have z':c=l:=by simpa using z
      rw [z']; exact lS)).trans e
    refine nH W (i:=1) (by show 1 < 2; decide) st3 fun v h4 tk4 hv4 st4 k4=>?_
    have hv4':v=.int (b:Int) u:=(Option.some.inj (show some (Value.int (b:Int) u)=some v from hv4)).symm
    subst hv4'
    refine aCc (l:=[(a,t)]) (l':=if a < b then [(a,t),(b,u)] else [(b,u),(a,t)]) (SXk x3' k4) (fun p hp=>by rw [An.mp hp]; exact ha) hb (ft1 led ⟨a,ha⟩) (by show 1<=1; decide) (fun hn=>?_) fun h5 _ sb5 xo xn=>?_
    ·have hab:a≠b:=hn (a,t) Ao
     by_cases hlt:a < b
     ·rw [if_pos hlt]; exact ⟨aGj led a b t u ha hb hlt,tf2 led ⟨a,ha⟩ ⟨b,hb⟩,by simp⟩
     ·rw [if_neg hlt]; exact ⟨aGk led a b t u ha hb (by omega),tf2 led ⟨b,hb⟩ ⟨a,ha⟩,by simp⟩
    ·have x5:SX led h5 S (two a b t u):=by
      unfold two
      by_cases hab:a=b
      ·rw [if_pos hab]; exact xo ⟨(a,t),Ao,hab⟩
      ·rw [if_neg hab]; exact xn fun p hp=>by rw [An.mp hp]; exact hab
     have st5:h5.IsListIter H1.objs.size l 2/\h5.IsList l #[.int (a:Int) t,.int (b:Int) u]:=W.frame _ _ _ st4 fun c hc o e=>(sb5.2 c (by
      rcases Am.mp hc with z | z
      ·rw [z]; exact Ne.symm SI
      ·have z':c=l:=by simpa using z
       rw [z']; exact lS)).trans e
     refine qP W st5 fun h6 tk6 k6=>?_
     show wpAny _ _ _ _ _ _
     refine wpAny_pure ?_
     show wpAny _ _ (ret Value.none) _ _ _
     refine wpAny_pure ⟨rfl,h6,tk6,rfl,SXk x5 k6,fun c o hc e=>?_⟩
     have c1:c≠S:=As hc
     have c2:c∉[H1.objs.size]:=by
      intro z
      have z':c=H1.objs.size:=by simpa using z
      omega
     exact k6 c o c2 ((sb5.2 c c1).trans (k4 c o c2 ((sb3.2 c c1).trans (k2 c o c2 (Aa _ (hH1 ▸ Aa _ e))))))
   ·cases r₂ with
    | error e=>exact hr₂
    | ok fl₂ =>
     cases fl₂ with
     | ret r =>
      obtain ⟨rfl,h',tk,rfl,hS',hk'⟩:=hr₂
      repeat (any_goals (first | assumption | wp_step))
      exact h _ _ hS' hk'
     | _=>exact hr₂.elim
  | _=>exact hr.elim
end
theorem aR:Slot "set_iterator" "__next__" "set_iterator.__next__" :=
 .of (owner := "set_iterator") (n := "__next__") (by rw [typeLookup_type,builtinLookup_eq_fast]; kernel_rfl) (by decide +kernel) (by decide +kernel) (by decide +kernel)
  (by first | exact .inl (by decide +kernel) | exact .inr (by decide +kernel)) (by rw [isSubtype_type]; kernel_rfl)
theorem cJ:entryFor table "set_iterator.__next__" = some Builtin.«set_iterator.__next__»:=entryFor_of_tree (by kernel_rfl)
theorem bY (a:Value):argsOk "set_iterator.__next__" ⟨[a],[]⟩:=by
 unfold argsOk; kernel_rfl
theorem cN:Slot "set_iterator" "__iter__" "set_iterator.__iter__" :=
 .of (owner := "set_iterator") (n := "__iter__") (by rw [typeLookup_type,builtinLookup_eq_fast]; kernel_rfl) (by decide +kernel) (by decide +kernel) (by decide +kernel)
  (by first | exact .inl (by decide +kernel) | exact .inr (by decide +kernel)) (by rw [isSubtype_type]; kernel_rfl)
theorem fX:entryFor table "set_iterator.__iter__" = some Builtin.«dict_keyiterator.__iter__» :=
 entryFor_alias (id' := "dict_keyiterator.__iter__") (by kernel_rfl) rfl (by decide +kernel) (by kernel_rfl)
theorem eY (a:Value):argsOk "set_iterator.__iter__" ⟨[a],[]⟩:=by
 unfold argsOk; kernel_rfl
theorem kN:entryFor table "set.__iter__" = some Builtin.«frozenset.__iter__» :=
 entryFor_alias (id' := "frozenset.__iter__") (by kernel_rfl) rfl (by decide +kernel) (by kernel_rfl)
def Okl (l:List (Nat×Tok)):Prop:=(∃ p,l = [p]/\p.1 < 8)∨∃ p q,l = [p,q]/\p.1 < q.1/\q.1 < 8
def pD (ns:List Nat) (i:Nat):Nat:=if i=0 then 0 else (ns[i - 1]?).getD 0+1
theorem bl1:∀ (k:Fin 8) (i:Fin 2),SetTable.below #[k.val] (pD [k.val] i.val)=i.val:=by decide +kernel
theorem bl2:∀ (k j:Fin 8) (i:Fin 3),k < j->SetTable.below #[k.val,j.val] (pD [k.val,j.val] i.val)=i.val:=by decide +kernel
theorem aCd {l:List (Nat×Tok)} (h:Okl l) (i:Nat) (hi:i<=l.length):SetTable.below (l.map (·.1)).toArray (pD (l.map (·.1)) i)=i:=by
 rcases h with ⟨p,rfl,h8⟩ | ⟨p,q,rfl,h1,h8⟩
 ·exact bl1 ⟨p.1,h8⟩ ⟨i,by simp at hi; omega⟩
 ·exact bl2 ⟨p.1,by omega⟩ ⟨q.1,h8⟩ ⟨i,by simp at hi; omega⟩ h1
theorem Okl.fits {L:Bool} {l:List (Nat×Tok)} (h:Okl l):(tab L (l.map (·.1))).fits (bS l).size=true:=by
 rcases h with ⟨p,rfl,h8⟩ | ⟨p,q,rfl,h1,h8⟩
 ·exact ft1 L ⟨p.1,h8⟩
 ·exact ft2 L ⟨p.1,by omega⟩ ⟨q.1,h8⟩
theorem aEW {a b:Nat} {t u:Tok} (ha:a < 8) (hb:b < 8):Okl (two a b t u):=by
 unfold two
 by_cases h:a=b
 ·rw [if_pos h]; exact .inl ⟨_,rfl,ha⟩
 ·rw [if_neg h]
  by_cases h2:a < b
  ·rw [if_pos h2]; exact .inr ⟨_,_,rfl,h2,hb⟩
  ·rw [if_neg h2]; exact .inr ⟨_,_,rfl,by show b < a; omega,ha⟩
def lQ (w:World) (S:Addr) (ep:Nat) (l:List (Nat×Tok)):Array (Int×Value):=if w.params.followText "set-order" then pickOrder (w.params.setOrder S ep) (bS l) else bS l
def gZ (w:World) (l:List (Nat×Tok)) (i:Nat):Nat:=if w.params.followText "set-order" then 0 else pD (l.map (·.1)) i
section
variable {prog:Program} {w:World} {A:Around} {E:Value->Shared->Prop} {s:Shared} {S:Addr} {o:Obj} {ep:Nat} {l:List (Nat×Tok)}
theorem iA {Q:Bool->Shared->Prop} (h:Q (w.params.followText "set-order") s):wpAny (model prog w) A setsByText Q E s:=wpAny_bind (wpAny_askSetting (wpAny_pure h))
theorem qQ {i:Nat} {Q:Option (Value×Nat)->Shared->Prop} (hl:Okl l) (ho:s.heap.get? S=some o) (hd:o.data=.set (bS l) ep (tab (Led w) (l.map (·.1)))) (hi:i<=l.length)
  (h:Q (((lQ w S ep l)[i]?).map fun e=>(e.2,gZ w l (i+1))) s):wpAny (model prog w) A (setNext S (gZ w l i) i ep) Q E s:=by
 unfold setNext
 refine wpAny_bind (wpAny_setState_of ho hd hl.fits ?_)
 dsimp only
 refine wpAny_bind (iA ?_)
 cases hb:w.params.followText "set-order" with
 | true =>
  have e1:lQ w S ep l=pickOrder (w.params.setOrder S ep) (bS l):=by unfold lQ; rw [hb]; rfl
  have e2:∀ i,gZ w l i=0:=fun i=>by unfold gZ; rw [hb]; rfl
  rw [e1,e2] at h
  rw [e2]
  simp only [if_true,bne_self_eq_false,Be,if_false]
  refine wpAny_bind ?_
  unfold setWalk
  refine wpAny_bind (wpAny_setState_of ho hd hl.fits ?_)
  dsimp only
  refine wpAny_bind (iA ?_)
  rw [hb]
  simp only [if_true]
  refine wpAny_bind (wpAny_askSetting (wpAny_pure (wpAny_pure h)))
 | false =>
  have e1:lQ w S ep l=bS l:=by unfold lQ; rw [hb]; rfl
  have e2:∀ i,gZ w l i=pD (l.map (·.1)) i:=fun i=>by unfold gZ; rw [hb]; rfl
  have eL:Led w=true:=by unfold Led; rw [hb]; rfl
  rw [e1,e2] at h
  rw [e2,eL]
  simp only [Be,if_false]
  have hp:(tab true (l.map (·.1))).place=(l.map (·.1)).toArray:=rfl
  have hbl:=aCd hl i hi
  refine wpAny_ite_split (fun hab=>absurd (show false=true from hab) Ar) (fun _=>?_)
  refine wpAny_bind (m:=pure ()) (wpAny_pure (wpAny_pure ?_))
  rw [hp,hbl]
  have e3:(bS l)[i]?=(l[i]?).map fun p=>((p.1:Int),Value.int (p.1:Int) p.2):=by unfold bS; simp
  have e4:(l.map (·.1)).toArray[i]?=(l[i]?).map (·.1):=by simp
  rw [e3] at h
  rw [e3,e4]
  cases hli:l[i]? with
  | none=>rw [hli] at h; exact h
  | some p =>
   rw [hli] at h
   have e5:pD (l.map (·.1)) (i+1)=p.1+1:=by
    unfold pD
    rw [if_neg (by omega),Nat.add_sub_cancel,Af,hli]
    rfl
   rw [e5] at h
   exact h
def pS (w:World) (h:Heap) (I S:Addr) (l:List (Nat×Tok)) (ep i:Nat):Prop :=
 h.get? I=some { cls:=.type "set_iterator",data:=.fields #[rawInt (gZ w l i:Nat),rawInt (i:Nat),.ref S,rawInt (l.length:Nat),rawInt (ep:Nat)] }
theorem aCe (hh:A.handled=none) (I S:Addr) (hne:S≠I) (o:Obj) (ep:Nat) (l:List (Nat×Tok)) (hl:Okl l) (hd:o.data=.set (bS l) ep (tab (Led w) (l.map (·.1)))) (hsz:(lQ w S ep l).size=l.length) :
  Walks prog w A I [I,S] [I] l.length (fun i v=>∃ k,(lQ w S ep l)[i]?=some (k,v)) (fun i h=>pS w h I S l ep i/\h.get? S=some o) where
 sub:=fun b hb=>by simp at hb; simp [hb]
 frame:=fun _ _ _ st hk=>⟨hk I (by simp) _ st.1,hk S (by simp) _ st.2⟩
 item:=fun i s Q E hi st hQ=>by
  obtain ⟨hit,hS⟩:=st
  have hT:s.TypeIs (.ref I) "set_iterator" := ⟨_,hit,rfl⟩
  unfold pyNext
  refine wpAny_bind (wpAny_attempt (wpAny_callSpecial?_slot (name:=Str.ofString "__next__") hT aR
   (wpAny_call_entry aR hT cJ ?_ (bY _))))
  unfold Builtin.«set_iterator.__next__» slotArgs
  simp only [Do,Ee,Be,↓reduceIte,Da,bne_self_eq_false]
  refine wpAny_bind (wpAny_pure ?_)
  dsimp only
  refine wpAny_bind (wpAny_fieldsOf hit rfl ?_)
  show wpAny _ _ (setEntries S >>= _) _ _ s
  have hsz':(bS l).size=l.length:=by unfold bS; rw [Aj,Ac]
  refine wpAny_bind (wpAny_bind (wpAny_setState_of hS hd hl.fits (wpAny_pure ?_)))
  dsimp only
  refine wpAny_ite_split (fun hab=>absurd hab (by rw [hsz']; simp)) (fun _=>?_)
  show wpAny _ _ (setNext S (gZ w l i:Int).toNat (i:Int).toNat (ep:Int).toNat >>= _) _ _ s
  rw [Bh,Bh,Bh]
  refine wpAny_bind (qQ hl hS hd (by omega) ?_)
  obtain ⟨⟨k,v⟩,hkv⟩:∃ e,(lQ w S ep l)[i]?=some e:=⟨_,Array.getElem?_eq_getElem (by rw [hsz]; exact hi)⟩
  rw [hkv]
  show wpAny _ _ (setField (Value.ref I) 0 (rawInt ↑(gZ w l (i+1))) >>= _) _ _ s
  refine wpAny_bind (wpAny_setField_rec hit (by show 0 < 5; decide) fun h1 g1 sb1=>?_)
  refine wpAny_bind (wpAny_setField_rec g1 (by show 1 < 5; decide) fun h2 g2 sb2=>?_)
  refine wpAny_pure ⟨v,rfl,wpAny_pure ?_⟩
  refine hQ v h2 s.toks ⟨k,hkv⟩ ⟨?_,(sb2.2 S hne).trans ((sb1.2 S hne).trans hS)⟩ fun b ob hb e=>?_
  ·unfold pS
   rw [g2]
   congr 1
  ·have hb':b≠I:=by simpa using hb
   exact (sb2.2 b hb').trans ((sb1.2 b hb').trans e)
 done:=fun s Q E st hQ=>by
  obtain ⟨hit,hS⟩:=st
  have hT:s.TypeIs (.ref I) "set_iterator" := ⟨_,hit,rfl⟩
  unfold pyNext
  refine wpAny_bind (wpAny_attempt (wpAny_callSpecial?_slot (name:=Str.ofString "__next__") hT aR
   (wpAny_call_entry aR hT cJ ?_ (bY _))))
  unfold Builtin.«set_iterator.__next__» slotArgs
  simp only [Do,Ee,Be,↓reduceIte,Da,bne_self_eq_false]
  refine wpAny_bind (wpAny_pure ?_)
  dsimp only
  refine wpAny_bind (wpAny_fieldsOf hit rfl ?_)
  show wpAny _ _ (setEntries S >>= _) _ _ s
  have hsz':(bS l).size=l.length:=by unfold bS; rw [Aj,Ac]
  refine wpAny_bind (wpAny_bind (wpAny_setState_of hS hd hl.fits (wpAny_pure ?_)))
  dsimp only
  refine wpAny_ite_split (fun hab=>absurd hab (by rw [hsz']; simp)) (fun _=>?_)
  show wpAny _ _ (setNext S (gZ w l l.length:Int).toNat (l.length:Int).toNat (ep:Int).toNat >>= _) _ _ s
  rw [Bh,Bh,Bh]
  refine wpAny_bind (qQ hl hS hd (Ai _) ?_)
  have hkv:(lQ w S ep l)[l.length]?=none:=by rw [Array.getElem?_eq_none]; omega
  rw [hkv]
  show wpAny _ _ (setField (Value.ref I) 2 Value.none >>= _) _ _ s
  refine wpAny_bind (wpAny_setField_rec hit (by show 2 < 5; decide) fun h1 g1 sb1=>?_)
  show wpAny _ _ (newExc (.type "StopIteration") [] >>= _) _ _ _
  refine wpAny_bind ?_
  simp only [newExc,newTuple]
  refine wpAny_bind (wpAny_newObj_type ?_ (by size_fits))
  refine wpAny_bind (m:=firstArgMember _ _) (wpAny_of_eq (a:=Value.none) (by first | rfl | (simp only [firstArgMember]; rfl)) ?_)
  refine wpAny_newObj_type ?_ (by size_fits)
  simp only [raiseNew]
  refine wpAny_bind (wpAny_handled ?_)
  first | rw [show A.in1.handled=none from hh] | rw [hh]
  refine wpAny_bind (wpAny_pure (wpAny_throw ?_))
  refine wpAny_bind (wpAny_isInstance (T := "StopIteration") (b:=true) ⟨_,Ag _ rfl,rfl⟩ isSubtype_stop ?_)
  refine wpAny_pure (hQ _ s.toks fun b ob hb e=>?_)
  have hb':b≠I:=by simpa using hb
  exact Aa _ (Aa _ ((sb1.2 b hb').trans e))
 self:=fun i s Q E st h=>by
  obtain ⟨hit,hS⟩:=st
  have hT:s.TypeIs (.ref I) "set_iterator" := ⟨_,hit,rfl⟩
  refine wpAny_pyIter_slot hT cN (wpAny_call_entry cN hT fX ?_ (eY _))
  show wpAny _ _ (ret (.ref I)) _ _ s
  exact wpAny_pure ⟨_,rfl, "set_iterator",_,hT,aR.lookup,h⟩
theorem zG {Q:Value->Shared->Prop} (hl:Okl l) (ho:s.heap.get? S=some o) (hex:o.ExactSet) (hd:o.data=.set (bS l) ep (tab (Led w) (l.map (·.1))))
  (h:Q (.ref s.heap.objs.size) { s with heap:=s.heap.push { cls:=.type "set_iterator",data:=.fields #[rawInt (gZ w l 0:Nat),rawInt ((0:Nat):Int),.ref S,rawInt (l.length:Nat),rawInt (ep:Nat)] } }):wpAny (model prog w) A (pyIter (.ref S)) Q E s:=by
 have hT:s.TypeIs (.ref S) "set" := ⟨o,ho,hex.1⟩
 refine wpAny_pyIter_slot hT PySem.F.slot_set_iter (wpAny_call_entry PySem.F.slot_set_iter hT kN ?_ (PySem.F.args_set_iter_1 _))
 unfold Builtin.«frozenset.__iter__» Builtin.Frozenset.slot0 slotArgs
 simp only [Do,Ee,Be,↓reduceIte,bind_assoc,Da,bne_self_eq_false]
 refine wpAny_bind (wpAny_pure ?_)
 dsimp only
 refine wpAny_bind (m:=Builtin.Frozenset.addrOf (.ref S)) (wpAny_pure ?_)
 unfold Builtin.Frozenset.sizeOf setEntries
 refine wpAny_bind (wpAny_bind (wpAny_bind (wpAny_setState_of ho hd hl.fits (wpAny_pure (wpAny_pure ?_)))))
 dsimp only
 unfold setDrawn
 refine wpAny_bind (wpAny_bind (wpAny_setState_of ho hd hl.fits (wpAny_bind (iA (wpAny_pure ?_)))))
 have hb:∀ b:Bool,(!b && false)=false:=by decide
 refine wpAny_ite_split (fun hab=>absurd (show (!(w.params.followText "set-order") && false)=true from hab) (by rw [hb]; decide)) (fun _=>?_)
 refine wpAny_bind (wpAny_pure ?_)
 unfold setEpoch
 refine wpAny_bind (wpAny_bind (wpAny_setState_of ho hd hl.fits (wpAny_pure ?_)))
 dsimp only
 have hsz':(bS l).size=l.length:=by unfold bS; rw [Aj,Ac]
 have e0:gZ w l 0=0:=by unfold gZ pD; split <;> rfl
 refine wpAny_bind (wpAny_newObj_type (wpAny_pure ⟨_,rfl, "set_iterator",_,⟨_,Ag _ rfl,rfl⟩,aR.lookup,?_⟩))
 rw [e0] at h
 rw [hsz']
 exact h
theorem aCf {Q:Bool->Shared->Prop} (hl:Okl l) (ho:s.heap.get? S=some o) (hex:o.ExactSet) (hd:o.data=.set (bS l) ep (tab (Led w) (l.map (·.1))))
  (h:∀ b,Q b s):wpAny (model prog w) A (Builtin.List.listLengthHint (.ref S)) Q E s:=by
 have hT:s.TypeIs (.ref S) "set" := ⟨o,ho,hex.1⟩
 have hsz':(bS l).size=l.length:=by unfold bS; rw [Aj,Ac]
 have hlen:l.length<=2:=by rcases hl with ⟨p,rfl,_⟩ | ⟨p,q,rfl,_⟩ <;> simp
 unfold Builtin.List.listLengthHint
 refine wpAny_bind (wpAny_specialOf hT PySem.F.slot_set_len.lookup ?_)
 generalize hid:("set.__len__" : String)=id0
 wp_delta
 rw [show splitId id0=some ("set", "__len__") from by subst hid; decide +kernel]
 subst hid
 refine wpAny_bind (wpAny_isInstance (T := "set") (b:=true) hT (by rw [isSubtype_type]; kernel_rfl) ?_)
 refine wpAny_ite_split (fun hab=>absurd hab (by decide)) (fun _=>?_)
 refine wpAny_ite_split (fun _=>?_) (fun hab=>absurd (by decide +kernel) hab)
 refine wpAny_bind (wpAny_typeOf hT ?_)
 exact wpAny_pure (h false)
theorem wU {Q:List Value->Shared->Prop} (hh:A.handled=none) (hl:Okl l) (ho:s.heap.get? S=some o) (hex:o.ExactSet) (hd:o.data=.set (bS l) ep (tab (Led w) (l.map (·.1)))) (hsz:(lQ w S ep l).size=l.length)
  (h:∀ h' tk vs,(∀ b o,s.heap.get? b=some o->h'.get? b=some o)->vs=(lQ w S ep l).toList.map (·.2)->Q vs { s with heap:=h',toks:=tk }):wpAny (model prog w) A (collect (.ref S)) Q E s:=by
 refine mK fun R hR=>?_
 generalize hD:s.heap.objs.size=D at *
 have hSD : @LT.lt Nat instLTNat S D:=by rw [<- hD]; exact Ak ho
 generalize hH0:s.heap.push { cls:=.type "list",data:=.seq ([]:List Value).toArray }=H0
 have szH0:H0.objs.size=D+1:=by rw [<- hH0,Bj,hD]
 have ho':H0.get? S=some o:=by rw [<- hH0]; exact Aa _ ho
 have hDl:H0.get? D=some { cls:=.type "list",data:=.seq #[] 0 }:=by rw [<- hH0,<- hD]; exact Ag _ rfl
 have old0:∀ b ob,s.heap.get? b=some ob->H0.get? b=some ob:=fun b ob e=>by rw [<- hH0]; exact Aa _ e
 unfold Builtin.List.listExtendWith
 refine wpAny_bind (wpAny_typeOf (T := "set") ⟨o,ho',hex.1⟩ ?_)
 have h1:Builtin.List.listSameRef (.ref D) (.ref S)=false:=by simp [Builtin.List.listSameRef]; exact Cb hSD
 have h2:(Value.type "set" == Value.type "list")=false:=by decide
 have h3:(Value.type "set" == Value.type "tuple")=false:=by decide
 simp only [h1,h2,h3,Bool.or_false,Be,if_false]
 refine wpAny_bind (zG (s:={ s with heap:=H0 }) hl ho' hex hd ?_)
 generalize hI:H0.objs.size=I at *
 have W:=(aCe (prog:=prog) (w:=w) (A:=A.in1) hh I S (As (by omega)) o ep l hl hd hsz).toS
 have key:∀ (hp:Heap) (c tk:Nat),pS w hp I S l ep 0->hp.get? S=some o->(∀ b ob,b≠D->H0.get? b=some ob->hp.get? b=some ob)->hp.get? D=some { cls:=.type "list",data:=.seq #[] c } ->
   codeAny (model prog w) A (.builtin "list.extend.loop" ⟨[.ref D,.ref I,.ref D],[]⟩) R { s with heap:=hp,toks:=tk }:=by
  intro hp c tk hit hS hk hDl'
  refine codeAny_extend_loopS W (by rw [sizeLine_eq]; rcases hl with ⟨p,rfl,_⟩ | ⟨p,q,rfl,_⟩ <;> simp) D (by
   simp only [Am,An,Ap,or_false,not_or]
   exact ⟨As (by omega),Cb hSD⟩) (.ref D) l.length 0 _ #[] c rfl (Bo _) ⟨hit,hS⟩ hDl' (ItemsOf.nil _) fun s' acc' c' hm hS' hacc=>?_
  rw [Moved.eq_with hm]
  refine hR { s with heap:=s'.heap,toks:=s'.toks } acc' c' hS' (h s'.heap s'.toks acc'.toList (fun b ob e=>hm.heap b ob (fun hmem=>?_) (hk b ob ?_ (old0 b ob e))) ?_)
  ·have hb : @LT.lt Nat instLTNat b D:=by rw [<- hD]; exact Ak e
   rcases Am.mp hmem with z | z
   ·exact absurd z (As hb)
   ·have z':b=I:=by simpa using z
    exact absurd z' (As (by omega))
  ·have hb : @LT.lt Nat instLTNat b D:=by rw [<- hD]; exact Ak e
   exact As hb
  ·obtain ⟨hs,hi⟩:=hacc
   apply Dh
   intro j
   rw [Af,Array.getElem?_toList,Array.getElem?_toList]
   cases e:acc'[j]? with
   | none =>
    have hj:l.length<=j:=by
     rw [<- hs]
     exact Array.getElem?_eq_none_iff.mp e
    rw [Array.getElem?_eq_none (by omega)]
    rfl
   | some v =>
    obtain ⟨k,hk⟩:=hi j v e
    rw [hk]
    rfl
 have hit0:pS w (H0.push { cls:=.type "set_iterator",data:=.fields #[rawInt (gZ w l 0:Nat),rawInt ((0:Nat):Int),.ref S,rawInt (l.length:Nat),rawInt (ep:Nat)] }) I S l ep 0:=by
  rw [<- hI]; exact Ag _ rfl
 have hD1:=Aa { cls:=.type "set_iterator",data:=.fields #[rawInt (gZ w l 0:Nat),rawInt ((0:Nat):Int),.ref S,rawInt (l.length:Nat),rawInt (ep:Nat)] } hDl
 refine wpAny_bind (wpAny_holding (aCf (s:={ s with heap:=H0.push { cls:=.type "set_iterator",data:=.fields #[rawInt (gZ w l 0:Nat),rawInt ((0:Nat):Int),.ref S,rawInt (l.length:Nat),rawInt (ep:Nat)] } }) hl (Aa _ ho') hex hd fun bb=>?_))
 have DI:D≠I:=As (by omega)
 refine wpAny_ite_split (fun _=>?_) (fun _=>wpAny_pure ⟨plainId_quiet PySem.F.plain_extend_loop _,key _ 0 _ hit0 (Aa _ ho') (fun b ob _ e=>Aa _ e) hD1⟩)
 refine wpAny_bind (wpAny_rule ?_)
 refine wpAny_bind ?_
 show wpAny _ _ (updateSeq D (·.push .none) >>= fun _=>updateSeq D (·.pop)) _ _ _
 refine wpAny_bind (wpAny_updateSeq hD1 rfl ?_)
 have hS₂:=Bs (Obj.mapSeq (·.push Value.none)) hD1 rfl
 refine wpAny_updateSeq (hz:=by seq_fits) hS₂ rfl ?_
 have hS₃:=Bs (Obj.mapSeq (·.pop)) hS₂ rfl
 refine wpAny_pure ⟨plainId_quiet PySem.F.plain_extend_loop _,key _ _ _ ?_ ?_ (fun b ob hb e=>?_) hS₃⟩
 ·exact (Aw _ _ DI).trans ((Aw _ _ DI).trans hit0)
 ·exact (Aw _ _ (Cb hSD)).trans ((Aw _ _ (Cb hSD)).trans (Aa _ ho'))
 ·exact (Aw _ _ (Ne.symm hb)).trans ((Aw _ _ (Ne.symm hb)).trans (Aa _ e))
end
theorem aFH {α:Type} (next:Nat->Nat) (e:α):pickOrder next #[e] = #[e]:=by
 unfold pickOrder
 simp [pickOrder.go,Hc]
theorem aFI {α:Type} (next:Nat->Nat) (e f:α):pickOrder next #[e,f] = #[e,f]∨pickOrder next #[e,f] = #[f,e]:=by
 unfold pickOrder
 have h:next 0 % 2=0∨next 0 % 2=1:=by omega
 rcases h with h | h
 ·left; simp [pickOrder.go,h,Hc]
 ·right; simp [pickOrder.go,h,Hc]
theorem qR {w:World} {S:Addr} {ep:Nat} {l:List (Nat×Tok)} (hl:Okl l):lQ w S ep l=bS l∨lQ w S ep l=bS l.reverse:=by
 unfold lQ
 by_cases hb:w.params.followText "set-order" = true
 ·rw [if_pos hb]
  rcases hl with ⟨p,rfl,_⟩ | ⟨p,q,rfl,_⟩
  ·exact .inl (aFH _ _)
  ·exact aFI _ _ _
 ·rw [if_neg hb]; exact .inl rfl
theorem aBg {w:World} {S:Addr} {ep:Nat} {l:List (Nat×Tok)} (hl:Okl l):(lQ w S ep l).size=l.length:=by
 rcases qR (w:=w) (S:=S) (ep:=ep) hl with e | e
 ·rw [e]; unfold bS; rw [Aj,Ac]
 ·rw [e]; unfold bS; rw [Aj,Ac,Ea]
theorem tP (l:List (Nat×Tok)):IntsAre ((bS l).toList.map (·.2)) (l.map fun p=>(p.1:Int)):=by
 unfold bS
 rw [Cg,Ez]
 induction l with
 | nil=>exact .nil
 | cons p l ih=>exact .cons _ p.2 ih
theorem aCg {w:World} {S:Addr} {ep:Nat} {l:List (Nat×Tok)} (hl:Okl l):∃ ns,IntsAre ((lQ w S ep l).toList.map (·.2)) ns/\ns.Perm (l.map fun p=>(p.1:Int)):=by
 rcases qR (w:=w) (S:=S) (ep:=ep) hl with e | e
 ·rw [e]; exact ⟨_,tP l,List.Perm.refl _⟩
 ·rw [e]; exact ⟨_,tP l.reverse,by rw [List.map_reverse]; exact List.reverse_perm _⟩
def mL (a b:Nat):List Int:=if a=b then [(a:Int)] else if a < b then [(a:Int),(b:Int)] else [(b:Int),(a:Int)]
theorem wV (a b:Nat) (t u:Tok):(two a b t u).map (fun p=>(p.1:Int))=mL a b:=by
 unfold two mL
 split
 ·rfl
 ·split <;> rfl
theorem wW (a b:Nat):(mL a b).Pairwise (·<=·):=by
 unfold mL
 split
 ·exact Ef _ _
 ·split
  ·refine Bt.mpr ⟨fun x hx=>?_,Ef _ _⟩
   rw [An.mp hx]; omega
  ·refine Bt.mpr ⟨fun x hx=>?_,Ef _ _⟩
   rw [An.mp hx]; omega
theorem pE (a b:Nat):(mL a b).length<=2:=by
 unfold mL
 split
 ·simp
 ·split <;> simp
def aEX (w:World) (p:Addr) (a b:Nat):HO:=.ext fun h=>∃ t u,SX (Led w) h p (two a b t u)
section
variable {X:Cx}
theorem aBh (hc:X.calm=true):eT X (.type "set") (fun xs H Q=>∃ (l:Addr) (a b:Nat),xs = [.ref l]/\SqL X.K H l [.int (a:Int),.int (b:Int)]/\a < 8/\b < 8/\∀ p,H p=none->Q (.ref p) (upd H p (aEX X.w p a b))):=by
 intro pins s σ H xs us Q I r h
 obtain ⟨l,a,b,rfl,hL,ha,hb,q⟩:=h
 obtain ⟨u,rfl,rx⟩:=eN r
 cases rx
 obtain ⟨its,rv,pl,hz⟩:=I.list hL
 obtain ⟨u1,u2,rfl,⟨t1,rfl⟩,⟨t2,rfl⟩⟩:=mZ rv
 refine uW (I.ok.hd hc) pl.isList ha hb fun h' tk x kp=>?_
 have kp':∀ b o,s.heap.get? b=some o->h'.get? b=some o:=fun b o e=>kp b o (Ak e) e
 have hf:=I.hok.fresh (Ai s.heap.objs.size)
 refine ⟨.ref s.heap.objs.size,_,I.laid (t':=tk) kp' (Ai _) ?_,rfl,q _ hf⟩
 refine ⟨⟨t1,t2,x⟩,?_,fun h1 h2 ⟨t,u,y⟩ k=>⟨t,u,y.keep k⟩⟩
 obtain ⟨o,ep,e,_⟩:=x
 exact ⟨o,e⟩
theorem pM (hc:X.calm=true):eT X (.builtin "sorted") (fun xs H Q=>∃ (p:Addr) (a b:Nat),xs = [.ref p]/\H p=some (aEX X.w p a b)/\a < 8/\b < 8/\∀ q,H q=none->Q (.ref q) (upd H q (.lst ((mL a b).map V.int)))):=by
 intro pins s σ H xs us Q I r h
 obtain ⟨p,a,b,rfl,hp,ha,hb,q⟩:=h
 obtain ⟨u,rfl,rx⟩:=eN r
 cases rx
 obtain ⟨⟨t,u,o,ep,ho,hex,hd⟩,_,_⟩:=I.hok p _ hp
 have hl:Okl (two a b t u):=aEW ha hb
 obtain ⟨ns,hi,hperm⟩:=aCg (w:=X.w) (S:=p) (ep:=ep) hl
 have hlen:ns.length<=2:=by rw [hperm.length_eq,wV]; exact pE a b
 refine tO (ns:=ns) (by omega) (fun Q' hQ'=>?_) fun h1 h' tk out ns' k1 k2 pl hi' hp' ho'=>?_
 ·exact wU (A:=X.A.in1) (I.ok.hd hc) hl ho hex hd (aBg hl) fun h' tk vs kp e=>hQ' h' tk vs kp (by rw [e]; exact hi)
 ·have I1:Inv X pins σ H { s with heap:=h1,toks:=tk }:=I.kept k1
  have hf:=I1.hok.fresh (Ai _)
  have en:ns'=mL a b:=PySem.W.ksm_same (hp'.trans (by rw [<- wV a b t u]; exact hperm)) ho' (wW a b)
  subst en
  have hl2:=pE a b
  obtain ⟨n,e⟩:=pl
  have I2:Inv X pins σ (upd H h1.objs.size (.lst ((mL a b).map V.int))) { s with heap:=h',toks:=tk } :=
   I1.laid (t':=tk) k2 (Ai _) (show bR X.prog X.w _ _ _ (.lst _) from ⟨by rw [Ac,sizeLine_eq]; omega,out.toList,n,jB hi',by simpa using e⟩)
  exact ⟨.ref h1.objs.size,_,I2,rfl,q _ hf⟩
end
structure Sub (prog:Program) (w:World) (i l:Addr) (n:Nat) (P:Nat->Value->Prop) (st:Nat->Heap->Prop):Prop where
 keep:∀ k h h',st k h->(∀ b,b=i∨b=l->∀ o,h.get? b=some o->h'.get? b=some o)->st k h'
 obj:∀ k h,st k h->(∃ o,h.get? i=some o/\∀ v,o.data≠.cell v)/\∃ o,h.get? l=some o
 item:∀ (A:Around) k (s:Shared) (Q:Value->Shared->Prop) (E:Value->Shared->Prop),k < n->st k s.heap->(∀ v h',P k v->st (k+1) h'->Heap.SameBut i s.heap h'->Q v { s with heap:=h' })->wpAny (model prog w) A (Builtin.SmallTypes.nextOf (.ref i)) Q E s
 done:∀ (A:Around) (s:Shared) (Q:Value->Shared->Prop) (E:Value->Shared->Prop),A.handled=none->st n s.heap->(∀ h' e,Heap.ExtBut i s.heap h'->(∃ o,h'.get? e=some o/\o.cls=.type "StopIteration")->E (.ref e) { s with heap:=h' }) ->
  wpAny (model prog w) A (Builtin.SmallTypes.nextOf (.ref i)) Q E s
theorem aCh (prog:Program) (w:World) (i l:Addr) (items:Array Value) (hne:l≠i):Sub prog w i l items.size (fun k v=>items[k]?=some v) (fun k h=>h.IsListIter i l k/\h.IsList l items) where
 keep:=fun k h h' st kp=>⟨st.1.at fun o e=>kp i (.inl rfl) o e,st.2.at fun o e=>kp l (.inr rfl) o e⟩
 obj:=fun k h st=>by
  obtain ⟨⟨o,e,_,d⟩,⟨o2,e2,_⟩⟩:=st
  exact ⟨⟨o,e,fun v z=>by rw [d] at z; cases z⟩,o2,e2⟩
 item:=fun A k s Q E hk st hQ=>wpAny_nextOf_list_item st.1 st.2 (Array.getElem?_eq_getElem hk) fun h' a b=>hQ _ h' (Array.getElem?_eq_getElem hk) ⟨a,st.2.at fun o e=>b.extBut l o hne e⟩ b
 done:=fun A s Q E hh st hE=>wpAny_nextOf_list_end hh st.1 st.2 (Array.getElem?_eq_none (Ai _)) hE
theorem nI {prog:Program} {w:World} {A:Around} {E:Value->Shared->Prop} {s:Shared} {it t:Addr} {i:Nat} {items:Array Value} {x:Value} {Q:Value->Shared->Prop} (hit:s.heap.IsTupleIter it t i) (ht:s.heap.IsTuple t items) (hx:items[i]?=some x)
  (hQ:∀ h',h'.IsTupleIter it t (i+1)->Heap.SameBut it s.heap h'->Q x { s with heap:=h' }):wpAny (model prog w) A (Builtin.SmallTypes.nextOf (.ref it)) Q E s:=by
 obtain ⟨o,ho,hc,hd⟩:=id hit
 obtain ⟨ol,hol,_,nl,hdl⟩:=ht
 have hT:=hit.typeIs
 unfold Builtin.SmallTypes.nextOf
 refine wpAny_bind (wpAny_callSpecial?_slot (name:=Str.ofString "__next__") hT PySem.F.slot_tuple_iterator_next (wpAny_call_entry PySem.F.slot_tuple_iterator_next hT PySem.F.entry_tuple_iterator_next ?_ (PySem.F.args_tuple_iterator_next_1 _)))
 refine wpAny_bind (m:=field (.ref it) 0) (wpAny_field ho hd (x:=.ref t) rfl ?_)
 have hno:¬ ((Value.ref t==Value.none)=true):=Ar
 show wpAny _ _ (if (Value.ref t==Value.none)=true then _ else _) _ _ s
 rw [if_neg hno]
 refine wpAny_bind (m:=field (.ref it) 1) (wpAny_field ho hd (x:=.int i 0) rfl ?_)
 refine wpAny_bind (m:=seqItems? (.ref t)) (wpAny_seqItems hol hdl ?_)
 simp only [Bh,hx]
 refine wpAny_bind (wpAny_setField ho hd (by simp) (wpAny_pure ⟨x,rfl,wpAny_pure (hQ _ ?_ (Heap.SameBut.update ..))⟩))
 refine ⟨_,Bs _ ho (Obj.isFreed_of_fields (Obj.data_mapFields hd _)),(Obj.cls_mapFields ..).trans hc,?_⟩
 rw [Obj.data_mapFields hd]
 simp [rawInt]
theorem oE {prog:Program} {w:World} {A:Around} {E:Value->Shared->Prop} {s:Shared} {it t:Addr} {i:Nat} {items:Array Value} {Q:Value->Shared->Prop} (hh:A.handled=none) (hit:s.heap.IsTupleIter it t i) (ht:s.heap.IsTuple t items) (hx:items[i]?=none)
  (hE:∀ h' e,Heap.ExtBut it s.heap h'->(∃ o,h'.get? e=some o/\o.cls=.type "StopIteration")->E (.ref e) { s with heap:=h' }):wpAny (model prog w) A (Builtin.SmallTypes.nextOf (.ref it)) Q E s:=by
 obtain ⟨o,ho,hc,hd⟩:=id hit
 obtain ⟨ol,hol,_,nl,hdl⟩:=ht
 have hT:=hit.typeIs
 unfold Builtin.SmallTypes.nextOf
 refine wpAny_bind (wpAny_callSpecial?_slot (name:=Str.ofString "__next__") hT PySem.F.slot_tuple_iterator_next (wpAny_call_entry PySem.F.slot_tuple_iterator_next hT PySem.F.entry_tuple_iterator_next ?_ (PySem.F.args_tuple_iterator_next_1 _)))
 refine wpAny_bind (m:=field (.ref it) 0) (wpAny_field ho hd (x:=.ref t) rfl ?_)
 have hno:¬ ((Value.ref t==Value.none)=true):=Ar
 show wpAny _ _ (if (Value.ref t==Value.none)=true then _ else _) _ _ s
 rw [if_neg hno]
 refine wpAny_bind (m:=field (.ref it) 1) (wpAny_field ho hd (x:=.int i 0) rfl ?_)
 refine wpAny_bind (m:=seqItems? (.ref t)) (wpAny_seqItems hol hdl ?_)
 simp only [Bh,hx]
 refine wpAny_bind (wpAny_rule (wpAny_bind (wpAny_setField ho hd (by simp) ?_)))
 refine wpAny_bind (m:=newExc (.type "StopIteration") []) ?_
 simp only [newExc,newTuple]
 refine wpAny_bind (wpAny_newObj_type ?_ (by size_fits))
 refine wpAny_bind (m:=firstArgMember _ _) (wpAny_of_eq (a:=Value.none) (by first | rfl | (simp only [firstArgMember]; rfl)) ?_)
 refine wpAny_newObj_type ?_ (by size_fits)
 simp only [raiseNew]
 refine wpAny_bind (wpAny_handled ?_)
 first | rw [show A.in1.handled=none from hh] | rw [hh]
 refine wpAny_bind (wpAny_pure (wpAny_throw ?_))
 exact hE _ _ (((Heap.SameBut.update ..).extBut.push _).push _) ⟨_,Ag _ rfl,rfl⟩
theorem aBi (prog:Program) (w:World) (i l:Addr) (items:Array Value) (hne:l≠i):Sub prog w i l items.size (fun k v=>items[k]?=some v) (fun k h=>h.IsTupleIter i l k/\h.IsTuple l items) where
 keep:=fun k h h' st kp=>⟨st.1.at fun o e=>kp i (.inl rfl) o e,by obtain ⟨o,e,r⟩:=st.2; exact ⟨o,kp l (.inr rfl) o e,r⟩⟩
 obj:=fun k h st=>by
  obtain ⟨⟨o,e,_,d⟩,⟨o2,e2,_⟩⟩:=st
  exact ⟨⟨o,e,fun v z=>by rw [d] at z; cases z⟩,o2,e2⟩
 item:=fun A k s Q E hk st hQ=>nI st.1 st.2 (Array.getElem?_eq_getElem hk) fun h' a b=>hQ _ h' (Array.getElem?_eq_getElem hk) ⟨a,by obtain ⟨o,e,r⟩:=st.2; exact ⟨o,b.extBut l o hne e,r⟩⟩ b
 done:=fun A s Q E hh st hE=>oE hh st.1 st.2 (Array.getElem?_eq_none (Ai _)) hE
section
variable {prog:Program} {w:World} {A:Around} {E:Value->Shared->Prop} {s:Shared} {z TI TO i1 i2 l1 l2:Addr} {n1 n2:Nat} {P1 P2:Nat->Value->Prop} {st1 st2:Nat->Heap->Prop}
theorem aDF {k:Nat} {a b:Value} {Q:Value->Shared->Prop} (D:ZipApart z TI TO i1 i2 l1 l2) (S1:Sub prog w i1 l1 n1 P1 st1) (S2:Sub prog w i2 l2 n2 P2 st2)
  (hz:IsZip s.heap z TI TO .none) (hTI:IsPair s.heap TI (.ref i1) (.ref i2)) (hTO:IsPair s.heap TO a b) (h1:st1 k s.heap) (h2:st2 k s.heap) (k1:k < n1) (k2:k < n2)
  (hQ:∀ h' x y,P1 k x->P2 k y->IsZip h' z TI TO (rawInt s.heap.objs.size)->IsPair h' TO x y->st1 (k+1) h'->st2 (k+1) h'->IsPair h' s.heap.objs.size x y ->
   (∀ c o,c≠z->c≠TO->c≠i1->c≠i2->s.heap.get? c=some o->h'.get? c=some o)->Q (.ref s.heap.objs.size) { s with heap:=h' }) :
  wpAny (model prog w) A (Builtin.«zip.__next__» ⟨[.ref z],[]⟩) (fun fin s'=>∃ v,fin=.done (.ret v)/\Q v s') E s:=by
 refine wpAny_bind (m:=field (.ref z) 2) (wpAny_field hz rfl (x:=.bool false) rfl ?_)
 refine wpAny_bind (m:=field (.ref z) 3) (wpAny_field hz rfl (x:=.ref TI) rfl ?_)
 refine wpAny_bind (wpAny_seqItems hTI rfl ?_)
 refine wpAny_bind (m:=Builtin.SmallTypes.ownedTupleIsFree (.ref z)) ?_
 unfold Builtin.SmallTypes.ownedTupleIsFree
 refine wpAny_bind (wpAny_field hz rfl (x:=.none) rfl (wpAny_pure ?_))
 simp only [if_true]
 refine wpAny_bind (wpAny_rule ?_)
 refine wpAny_bind (wpAny_field hz rfl (x:=.ref TO) rfl ?_)
 refine wpAny_bind (wpAny_setField_rec hz (by simp) fun g1 hz1 b1=>?_)
 have hz1':IsZip g1 z TI TO .ellipsis:=hz1
 refine wpAny_bind ?_
 simp only [Eo,Eu,Dg,Dv]
 -- the first one
 have s1:st1 k g1:=S1.keep _ _ _ h1 fun c hc o e=>b1.extBut c o (by rcases hc with r | r <;> rw [r]; exact D.i1z; exact D.l1z) e
 refine wpAny_bind (wpAny_bind (wpAny_onRaise ?_))
 refine wpAny_bind (m:=Builtin.SmallTypes.nextOf (.ref i1)) (S1.item _ k _ _ _ k1 s1 fun x g2 px t1 b2=>wpAny_pure ?_)
 have o2:IsPair g2 TO a b:=b2.extBut _ _ D.TOi1 (b1.extBut _ _ D.TOz hTO)
 refine wpAny_bind (wpAny_seqItems o2 rfl ?_)
 refine wpAny_bind (wpAny_updateSeq_pair o2 fun g3 o3 b3=>?_)
 have o3':IsPair g3 TO x b:=o3
 refine wpAny_bind (wpAny_letGo (wpAny_pure ?_))
 -- the second one
 have s2:st2 k g3:=S2.keep _ _ _ h2 fun c hc o e=>by
  rcases hc with r | r
  ·rw [r] at e ⊢; exact b3.extBut _ _ D.TOi2.symm (b2.extBut _ _ D.i12.symm (b1.extBut _ _ D.i2z e))
  ·rw [r] at e ⊢; exact b3.extBut _ _ D.l2TO (b2.extBut _ _ D.l2i1 (b1.extBut _ _ D.l2z e))
 refine wpAny_bind (wpAny_bind (wpAny_onRaise ?_))
 refine wpAny_bind (m:=Builtin.SmallTypes.nextOf (.ref i2)) (S2.item _ k _ _ _ k2 s2 fun y g4 py t2 b4=>wpAny_pure ?_)
 have o4:IsPair g4 TO x b:=b4.extBut _ _ D.TOi2 o3'
 refine wpAny_bind (wpAny_seqItems o4 rfl ?_)
 refine wpAny_bind (wpAny_updateSeq_pair o4 fun g5 o5 b5=>?_)
 have o5':IsPair g5 TO x y:=o5
 refine wpAny_bind (wpAny_letGo (wpAny_pure (wpAny_pure ?_)))
 refine wpAny_bind (wpAny_seqItems o5' rfl ?_)
 refine wpAny_bind (wpAny_newTuple ?_)
 have sz:g5.objs.size=s.heap.objs.size:=by rw [b5.1,b4.1,b3.1,b2.1,b1.1]
 have z5:IsZip g5 z TI TO .ellipsis:=b5.extBut _ _ D.TOz.symm (b4.extBut _ _ D.i2z.symm (b3.extBut _ _ D.TOz.symm (b2.extBut _ _ D.i1z.symm hz1')))
 have kp5:∀ c o,c≠z->c≠TO->c≠i1->c≠i2->s.heap.get? c=some o->g5.get? c=some o:=fun c o c1 c2 c3 c4 e =>
  b5.extBut _ _ c2 (b4.extBut _ _ c4 (b3.extBut _ _ c2 (b2.extBut _ _ c3 (b1.extBut _ _ c1 e))))
 have t1':st1 (k+1) g5:=S1.keep _ _ _ t1 fun c hc o e=>by
  rcases hc with r | r
  ·rw [r] at e ⊢; exact b5.extBut _ _ D.TOi1.symm (b4.extBut _ _ D.i12 (b3.extBut _ _ D.TOi1.symm e))
  ·rw [r] at e ⊢; exact b5.extBut _ _ D.l1TO (b4.extBut _ _ D.l1i2 (b3.extBut _ _ D.l1TO e))
 have t2':st2 (k+1) g5:=S2.keep _ _ _ t2 fun c hc o e=>by
  rcases hc with r | r
  ·rw [r] at e ⊢; exact b5.extBut _ _ D.TOi2.symm e
  ·rw [r] at e ⊢; exact b5.extBut _ _ D.l2TO e
 have zlt:g5.objs.size≠z:=Cb (Ak z5)
 refine wpAny_bind (m:=Builtin.SmallTypes.ownedTupleHandOut (.ref z) (.ref g5.objs.size)) ?_
 unfold Builtin.SmallTypes.ownedTupleHandOut
 have z6:IsZip (g5.push { cls:=.type "tuple",data:=.seq #[x,y] }) z TI TO .ellipsis:=Aa _ z5
 refine wpAny_bind (wpAny_setField_rec z6 (by simp) fun g7 z7 b7=>?_)
 have z7':IsZip g7 z TI TO (rawInt g5.objs.size):=z7
 refine wpAny_setField_rec z7' (by simp) fun g8 z8 b8=>?_
 have z8':IsZip g8 z TI TO (rawInt g5.objs.size):=z8
 have up:∀ c o,c≠z->g5.get? c=some o->g8.get? c=some o:=fun c o c1 e=>b8.extBut _ _ c1 (b7.extBut _ _ c1 (Aa _ e))
 have T8:IsPair g8 g5.objs.size x y:=b8.extBut _ _ zlt (b7.extBut _ _ zlt (Ag _ rfl))
 rw [sz] at z8' T8
 refine wpAny_pure ⟨_,rfl,?_⟩
 show Q (.ref g5.objs.size) _
 rw [sz]
 refine hQ g8 x y px py z8' (up _ _ D.TOz o5') (S1.keep _ _ _ t1' fun c hc o e=>up c o (by rcases hc with r | r <;> rw [r]; exact D.i1z; exact D.l1z) e) (S2.keep _ _ _ t2' fun c hc o e=>up c o (by rcases hc with r | r <;> rw [r]; exact D.i2z; exact D.l2z) e) T8 fun c o c1 c2 c3 c4 e=>up c o c1 (kp5 c o c1 c2 c3 c4 e)
theorem aEY {k:Nat} {a b:Value} {Q:Fin->Shared->Prop} (hh:A.handled=none) (D:ZipApart z TI TO i1 i2 l1 l2) (S1:Sub prog w i1 l1 n1 P1 st1) (S2:Sub prog w i2 l2 n2 P2 st2)
  (hz:IsZip s.heap z TI TO .none) (hTI:IsPair s.heap TI (.ref i1) (.ref i2)) (hTO:IsPair s.heap TO a b) (h1:st1 k s.heap) (h2:st2 k s.heap) (hend:k=n1/\k<=n2∨k=n2/\k < n1)
  (hE:∀ h' e,(∀ c o,c≠z->c≠TO->c≠i1->c≠i2->s.heap.get? c=some o->h'.get? c=some o)->(∃ o,h'.get? e=some o/\o.cls=.type "StopIteration")->E (.ref e) { s with heap:=h' }) :
  wpAny (model prog w) A (Builtin.«zip.__next__» ⟨[.ref z],[]⟩) Q E s:=by
 refine wpAny_bind (m:=field (.ref z) 2) (wpAny_field hz rfl (x:=.bool false) rfl ?_)
 refine wpAny_bind (m:=field (.ref z) 3) (wpAny_field hz rfl (x:=.ref TI) rfl ?_)
 refine wpAny_bind (wpAny_seqItems hTI rfl ?_)
 refine wpAny_bind (m:=Builtin.SmallTypes.ownedTupleIsFree (.ref z)) ?_
 unfold Builtin.SmallTypes.ownedTupleIsFree
 refine wpAny_bind (wpAny_field hz rfl (x:=.none) rfl (wpAny_pure ?_))
 simp only [if_true]
 refine wpAny_bind (wpAny_rule ?_)
 refine wpAny_bind (wpAny_field hz rfl (x:=.ref TO) rfl ?_)
 refine wpAny_bind (wpAny_setField_rec hz (by simp) fun g1 hz1 b1=>?_)
 have hz1':IsZip g1 z TI TO .ellipsis:=hz1
 refine wpAny_bind ?_
 simp only [Eo,Eu,Dg,Dv]
 have s1:st1 k g1:=S1.keep _ _ _ h1 fun c hc o e=>b1.extBut c o (by rcases hc with r | r <;> rw [r]; exact D.i1z; exact D.l1z) e
 refine wpAny_bind (wpAny_bind (wpAny_onRaise ?_))
 have fin:∀ (g:Heap) (e:Addr) (g0:Heap),(∃ o,g.get? e=some o/\o.cls=.type "StopIteration")->IsZip g z TI TO .ellipsis->(∀ c o,c≠z->c≠TO->c≠i1->c≠i2->s.heap.get? c=some o->g.get? c=some o) ->
   wpAny (model prog w) A (setField (.ref z) 0 .none) (fun _ s'=>E (.ref e) s') E { s with heap:=g }:=fun g e g0 ⟨oe,hoe,hce⟩ hzz kp=>by
  have hez:e≠z:=fun q=>by rw [q,hzz] at hoe; cases hoe; simp at hce
  exact wpAny_setField_rec hzz (by simp) fun g' _ b'=>hE g' e (fun c o c1 c2 c3 c4 q=>b'.extBut _ _ c1 (kp c o c1 c2 c3 c4 q)) ⟨oe,b'.extBut _ _ hez hoe,hce⟩
 rcases hend with ⟨e1,_⟩ | ⟨e2,k1⟩
 ·rw [e1] at s1
  refine wpAny_bind (m:=Builtin.SmallTypes.nextOf (.ref i1)) (S1.done _ _ _ _ hh s1 fun g2 e b2 he=>?_)
  exact fin g2 e g1 he (b2 _ _ D.i1z.symm hz1') fun c o c1 _ c3 _ q=>b2 _ _ c3 (b1.extBut _ _ c1 q)
 ·refine wpAny_bind (m:=Builtin.SmallTypes.nextOf (.ref i1)) (S1.item _ k _ _ _ k1 s1 fun x g2 px t1 b2=>wpAny_pure ?_)
  have o2:IsPair g2 TO a b:=b2.extBut _ _ D.TOi1 (b1.extBut _ _ D.TOz hTO)
  refine wpAny_bind (wpAny_seqItems o2 rfl ?_)
  refine wpAny_bind (wpAny_updateSeq_pair o2 fun g3 o3 b3=>?_)
  refine wpAny_bind (wpAny_letGo (wpAny_pure ?_))
  have s2:st2 n2 g3:=by
   rw [<- e2]
   exact S2.keep _ _ _ h2 fun c hc o e=>by
    rcases hc with r | r
    ·rw [r] at e ⊢; exact b3.extBut _ _ D.TOi2.symm (b2.extBut _ _ D.i12.symm (b1.extBut _ _ D.i2z e))
    ·rw [r] at e ⊢; exact b3.extBut _ _ D.l2TO (b2.extBut _ _ D.l2i1 (b1.extBut _ _ D.l2z e))
  refine wpAny_bind (wpAny_bind (wpAny_onRaise ?_))
  refine wpAny_bind (m:=Builtin.SmallTypes.nextOf (.ref i2)) (S2.done _ _ _ _ hh s2 fun g4 e b4 he=>?_)
  exact fin g4 e g3 he (b4 _ _ D.i2z.symm (b3.extBut _ _ D.TOz.symm (b2.extBut _ _ D.i1z.symm hz1'))) fun c o c1 c2 c3 c4 q=>b4 _ _ c4 (b3.extBut _ _ c2 (b2.extBut _ _ c3 (b1.extBut _ _ c1 q)))
end
inductive Sk where
 | l | t
def SqK (k:Sk) (K:PySem.W.Frag) (H:Hp) (a:Addr) (xs:List V):Prop:=match k with | .l=>SqL K H a xs | .t=>SqT K H a xs
def AtK (k:Sk) (h:Heap) (a:Addr) (its:Array Value):Prop:=match k with | .l=>h.IsList a its | .t=>h.IsTuple a its
def ItK (k:Sk) (h:Heap) (i a:Addr) (n:Nat):Prop:=match k with | .l=>h.IsListIter i a n | .t=>h.IsTupleIter i a n
def itK (k:Sk) (a:Addr):Obj:=match k with | .l=>{ cls:=.type "list_iterator",data:=.fields #[.ref a,.int 0 0] } | .t=>{ cls:=.type "tuple_iterator",data:=.fields #[.ref a,.int 0 0] }
theorem ItK.new (k:Sk) (h:Heap) (a:Addr):ItK k (h.push (itK k a)) h.objs.size a 0:=by
 cases k
 ·exact ⟨_,Ag _ rfl,rfl,rfl⟩
 ·exact ⟨_,Ag _ rfl,rfl,rfl⟩
theorem ItK.obj {k:Sk} {h:Heap} {i a:Addr} {n:Nat} (x:ItK k h i a n):∃ o,h.get? i=some o/\∀ v,o.data≠.cell v:=by
 cases k
 ·obtain ⟨o,e,_,d⟩:=x; exact ⟨o,e,fun v z=>by rw [d] at z; cases z⟩
 ·obtain ⟨o,e,_,d⟩:=x; exact ⟨o,e,fun v z=>by rw [d] at z; cases z⟩
theorem ItK.at {k:Sk} {h h':Heap} {i a:Addr} {n:Nat} (x:ItK k h i a n) (kp:∀ o,h.get? i=some o->h'.get? i=some o):ItK k h' i a n:=by
 cases k
 ·exact Heap.IsListIter.at x kp
 ·exact Heap.IsTupleIter.at x kp
theorem AtK.at {k:Sk} {h h':Heap} {a:Addr} {its:Array Value} (x:AtK k h a its) (kp:∀ o,h.get? a=some o->h'.get? a=some o):AtK k h' a its:=by
 cases k
 ·exact Heap.IsList.at x kp
 ·obtain ⟨o,e,r⟩:=x; exact ⟨o,kp o e,r⟩
theorem sR (k:Sk) (prog:Program) (w:World) (i l:Addr) (items:Array Value) (hne:l≠i):Sub prog w i l items.size (fun j v=>items[j]?=some v) (fun j h=>ItK k h i l j/\AtK k h l items):=by
 cases k
 ·exact aCh prog w i l items hne
 ·exact aBi prog w i l items hne
theorem wX {prog:Program} {w:World} {A:Around} {E:Value->Shared->Prop} {s:Shared} {k:Sk} {a:Addr} {its:Array Value} {Q:Value->Shared->Prop} (h:AtK k s.heap a its) (hQ:Q (.ref s.heap.objs.size) { s with heap:=s.heap.push (itK k a) }):wpAny (model prog w) A (pyIter (.ref a)) Q E s:=by
 cases k
 ·exact wpAny_pyIter_list h hQ
 ·exact wpAny_pyIter_tuple h hQ
section
variable {X:Cx} {pins:List (Addr×Obj)} {σ:St} {H:Hp} {s:Shared}
theorem Inv.seqK (I:Inv X pins σ H s) {k:Sk} {a:Addr} {xs:List V} (h:SqK k X.K H a xs):∃ its:List Value,bB xs its/\AtK k s.heap a its.toArray:=by
 cases k
 ·obtain ⟨its,r,p,_⟩:=I.list h; exact ⟨its,r,p.isList⟩
 ·obtain ⟨its,r,p,_⟩:=I.tuple h; exact ⟨its,r,p⟩
theorem Inv.seqK_inj (I:Inv X pins σ H s) {k:Sk} {a:Addr} {xs ys:List V} (h:SqK k X.K H a xs) (h':SqK k X.K H a ys):xs=ys:=by
 cases k
 ·exact I.list_inj h h'
 ·exact I.tuple_inj h h'
theorem Inv.seq_ne (I:Inv X pins σ H s) {k:Sk} {a b:Addr} {xs:List V} (h:SqK k X.K H a xs) (f:qF X pins H b):a≠b:=by
 have rd:∀ {u:HO},Rd H a u->a≠b:=fun {u} r z=>by
  rcases r with r | ⟨o,r⟩ <;> (rw [z,f.1] at r; cases r)
 have kk:∀ {o:Obj},X.K.lookup a=some o->a≠b:=fun {o} e z=>by
  have e1:=I.ok.mod.kin a o e
  rcases f.2.2.2.1 with q | q
  ·exact I.ok.noex a o e1 (z ▸ q)
  ·exact Bq _ (Au (Ak (I.ok.bs a o e1).1) (z ▸ q))
 cases k
 ·rcases h with h | ⟨o,_,_,e,_⟩
  ·exact rd h
  ·exact kk e
 ·rcases h with h | ⟨o,_,_,e,_⟩
  ·exact rd h
  ·exact kk e
theorem Inv.turnedL {h':Heap} {t':Nat} (ch:List Addr) (I:Inv X pins σ H s) (k:∀ b o,b∉ch->s.heap.get? b=some o->h'.get? b=some o) (f:∀ b∈ch,qF X pins H b):Inv X pins σ H { s with heap:=h',toks:=t' }:=by
 have nit:∀ b u,H b=some u->b∉ch:=fun b u e z=>by rw [(f b z).1] at e; cases e
 have nL:X.env.locals∉ch:=fun z=>(f _ z).2.1 rfl
 refine I.step (g':=s.gens) (d':=s.drawn) (ch:=ch) (fun b hb=>⟨(f b hb).2.2.2.1,(f b hb).2.1,(f b hb).2.2.2.2.1,(f b hb).2.2.2.2.2⟩) (fun b o _ _ hc e _=>k b o hc e) (fun b o _ _ hc e _=>⟨o.slots,k b o hc e⟩) (fun _ _ _ _ n=>n)
  (fun b o hc e=>⟨o,k b o hc e⟩) (fun _ _ e=>e) (fun _ _ _ e=>e) (fun b ps e=>⟨#[],by rw [e]; simp⟩) (fun m hm=>?_) (fun b u e=>?_) I.bare
 ·obtain ⟨o,es,ep,ho,r⟩:=hm
  exact ⟨o,es,ep,k _ o nL ho,r⟩
 ·refine (I.hok b u e).stay (fun c v hc q=>k c v ?_ q) (fun _ q=>q) fun _ _ q=>q
  rcases hc with z | z
  ·rw [z]; exact nit b u e
  ·exact nit c _ z
theorem Inv.trackO {D:Addr} {u:HO} (I:Inv X pins σ H s) (new:bR X.prog X.w (upd H D u) s.heap D u) (hn:H D=none) (hL:D≠X.env.locals)
  (h1:X.s₀.heap.objs.size<=D) (h2:∀ x c,X.env.cells.lookup x=some c->c≠D) (h3:∀ p∈X.pn++pins,p.1≠D):Inv X pins σ (upd H D u) s:=by
 have ne:∀ b v,H b=some v->b≠D:=fun b v e z=>by rw [z,hn] at e; cases e
 refine I.step (g':=s.gens) (d':=s.drawn) (t':=s.toks) (h':=s.heap) (ch:=[D]) (fun b hb=>?_) (fun b o _ _ _ e _=>e) (fun b o _ _ _ e _=>⟨o.slots,e⟩) (fun b o hc _ n=>?_) (fun b o _ e=>⟨o,e⟩)
  (fun b xs e=>by rw [aJ (ne b _ e)]; exact e) (fun b o v e=>by rw [aJ (ne b _ e)]; exact e) (fun b ps e=>⟨#[],by rw [aJ (ne b _ e),e]; simp⟩) (fun _ h=>h) (fun b v e=>?_) I.bare
 ·have e:b=D:=by simpa using hb
  subst e
  exact ⟨.inr h1,hL,h2,h3⟩
 ·rw [aJ (by simpa using hc)]; exact n
 ·by_cases hb:b=D
  ·subst hb
   rw [aB] at e; cases e
   exact new
  ·rw [aJ hb] at e
   exact (I.hok b v e).stay (fun c v _ q=>q) (fun c q=>by rw [aJ (ne c _ q)]; exact q) fun c xs q=>by rw [aJ (ne c _ q)]; exact q
end
def Itz (K:PySem.W.Frag) (k1 k2:Sk) (a b:Addr):It :=
 ⟨fun i H => ∃ xs ys x y, SqK k1 K H a xs /\ SqK k2 K H b ys /\ xs[i]? = some x /\ ys[i]? = some y,
  fun i H v H'=>∃ p,H p=none/\v=.ref p/\∀ xs ys,SqK k1 K H a xs->SqK k2 K H b ys->∃ x y,xs[i]?=some x/\ys[i]?=some y/\H'=upd H p (.tup [x,y]),
  fun i H=>∃ xs ys,SqK k1 K H a xs/\SqK k2 K H b ys/\min xs.length ys.length=i⟩
theorem aCi {P:Program} {w:World} {K:PySem.W.Frag} {es:List Expr} {x1} {pos:Pos} (k1 k2:Sk) (a b z TI TO i1 i2:Addr) (D:∀ l1 l2:Addr,(∀ c∈[z,TI,TO,i1,i2],l1≠c)->(∀ c∈[z,TI,TO,i1,i2],l2≠c)->ZipApart z TI TO i1 i2 l1 l2) :
  Turn P w K (.Tuple es x1 pos) (Itz K k1 k2 a b) [z,TI,TO,i1,i2] z (fun i h=>IsZip h z TI TO .none/\IsPair h TI (.ref i1) (.ref i2)/\(∃ x y,IsPair h TO x y)/\ItK k1 h i1 a i/\ItK k2 h i2 b i) where
 mem:=by simp
 obj:=fun i h st c hc=>by
  obtain ⟨hz,hTI,⟨x,y,hTO⟩,h1,h2⟩:=st
  simp only [Am,Ap,or_false] at hc
  rcases hc with rfl | rfl | rfl | rfl | rfl
  ·exact ⟨_,hz,fun v q=>by cases q⟩
  ·exact ⟨_,hTI,fun v q=>by cases q⟩
  ·exact ⟨_,hTO,fun v q=>by cases q⟩
  ·exact h1.obj
  ·exact h2.obj
 keep:=fun i h h' st k=>by
  obtain ⟨hz,hTI,⟨x,y,hTO⟩,h1,h2⟩:=st
  exact ⟨k z (by simp) _ hz,k TI (by simp) _ hTI,⟨x,y,k TO (by simp) _ hTO⟩,h1.at fun o e=>k i1 (by simp) o e,h2.at fun o e=>k i2 (by simp) o e⟩
 item:=by
  intro X hP hw hK hc i pins s σ H E I hf st hg
  subst hP hw hK
  obtain ⟨hz,hTI,⟨x0,y0,hTO⟩,h1,h2⟩:=st
  obtain ⟨xs,ys,x,y,ha,hb,hx,hy⟩:=hg
  obtain ⟨its,rv,pa⟩:=I.seqK ha
  obtain ⟨jts,rw',pb⟩:=I.seqK hb
  obtain ⟨u,hu,ru⟩:=rv.get hx
  obtain ⟨v,hv,rv2⟩:=rw'.get hy
  have na:∀ c∈[z,TI,TO,i1,i2],a≠c:=fun c hc'=>I.seq_ne ha (hf c hc')
  have nb:∀ c∈[z,TI,TO,i1,i2],b≠c:=fun c hc'=>I.seq_ne hb (hf c hc')
  have DD:=D a b na nb
  have hT:s.TypeIs (.ref z) "zip" := ⟨_,hz,rfl⟩
  have hi1:i < its.toArray.size:=by rw [Aj]; exact (Ad.mp hu).1
  have hi2:i < jts.toArray.size:=by rw [Aj]; exact (Ad.mp hv).1
  unfold pyNext
  refine wpAny_bind (wpAny_attempt (wpAny_callSpecial?_slot (name:=Str.ofString "__next__") hT PySem.F.slot_zip_next (wpAny_call_entry PySem.F.slot_zip_next hT PySem.F.entry_zip_next
   (aDF DD (sR k1 X.prog X.w i1 a its.toArray (na i1 (by simp))) (sR k2 X.prog X.w i2 b jts.toArray (nb i2 (by simp))) hz hTI hTO ⟨h1,pa⟩ ⟨h2,pb⟩ hi1 hi2 fun h' u' v' pu pv hz' hTO' s1 s2 hT' kp=>wpAny_pure ?_) (PySem.F.args_zip_next_1 _))))
  have eu:u'=u:=by
   have q:its[i]?=some u':=by simpa using pu
   rw [hu] at q
   exact (Option.some.inj q).symm
  have ev:v'=v:=by
   have q:jts[i]?=some v':=by simpa using pv
   rw [hv] at q
   exact (Option.some.inj q).symm
  subst eu ev
  refine ⟨_,rfl,wpAny_letOwnedTupleGo_zip hz' fun h2 hz2 sb2=>?_⟩
  have Tz:s.heap.objs.size≠z:=Cb (Ak hz)
  have hT2:IsPair h2 s.heap.objs.size u' v':=sb2.extBut _ _ Tz hT'
  have hf0:=I.hok.fresh (Ai s.heap.objs.size)
  have fz:=I.fpOk (Ai s.heap.objs.size) hf0
  have I2:Inv X pins σ H { s with heap:=h2 }:=by
   refine I.turnedL (t':=s.toks) [z,TO,i1,i2] (fun c o hc' e=>?_) (fun c hc'=>hf c ?_)
   ·simp only [Am,Ap,or_false,not_or] at hc'
    exact sb2.extBut _ _ hc'.1 (kp c o hc'.1 hc'.2.1 hc'.2.2.1 hc'.2.2.2 e)
   ·simp only [Am,Ap,or_false] at hc' ⊢
    rcases hc' with r | r | r | r
    ·exact .inl r
    ·exact .inr (.inr (.inl r))
    ·exact .inr (.inr (.inr (.inl r)))
    ·exact .inr (.inr (.inr (.inr r)))
  have I3:Inv X pins σ (upd H s.heap.objs.size (.tup [x,y])) { s with heap:=h2 }:=by
   refine I2.trackO (show bR X.prog X.w _ _ _ (.tup [x,y]) from ⟨by show 2<=sizeLine; rw [sizeLine_eq]; decide,[u',v'],0,.cons ru (.cons rv2 .nil),hT2⟩) hf0 fz.2.1 I.sz fz.2.2.2.2.1 fz.2.2.2.2.2
  refine ⟨.ref s.heap.objs.size,_,I3,rfl,⟨s.heap.objs.size,hf0,rfl,fun xs' ys' ha' hb'=>?_⟩,⟨hz2,sb2.extBut _ _ DD.TIz (kp _ _ DD.TIz DD.TITO DD.TIi1 DD.TIi2 hTI),⟨_,_,sb2.extBut _ _ DD.TOz hTO'⟩,s1.1.at fun o e=>sb2.extBut _ _ DD.i1z e,s2.1.at fun o e=>sb2.extBut _ _ DD.i2z e⟩,fun c hc'=>?_⟩
  ·rw [I.seqK_inj ha' ha,I.seqK_inj hb' hb]
   exact ⟨x,y,hx,hy,rfl⟩
  ·have cl:c≠s.heap.objs.size:=by
    obtain ⟨o,e⟩:∃ o,s.heap.get? c=some o:=by
     simp only [Am,Ap,or_false] at hc'
     rcases hc' with rfl | rfl | rfl | rfl | rfl
     ·exact ⟨_,hz⟩
     ·exact ⟨_,hTI⟩
     ·exact ⟨_,hTO⟩
     ·obtain ⟨o,e,_⟩:=h1.obj; exact ⟨o,e⟩
     ·obtain ⟨o,e,_⟩:=h2.obj; exact ⟨o,e⟩
    exact As (Ak e)
   rw [aJ cl]
   exact (hf c hc').1
 done:=by
  intro X hP hw hK hc i pins s σ H E I hf st hg
  subst hP hw hK
  obtain ⟨hz,hTI,⟨x0,y0,hTO⟩,h1,h2⟩:=st
  obtain ⟨xs,ys,ha,hb,hmin⟩:=hg
  obtain ⟨its,rv,pa⟩:=I.seqK ha
  obtain ⟨jts,rw',pb⟩:=I.seqK hb
  have la:=rv.length
  have lb:=rw'.length
  have na:∀ c∈[z,TI,TO,i1,i2],a≠c:=fun c hc'=>I.seq_ne ha (hf c hc')
  have nb:∀ c∈[z,TI,TO,i1,i2],b≠c:=fun c hc'=>I.seq_ne hb (hf c hc')
  have DD:=D a b na nb
  have hT:s.TypeIs (.ref z) "zip" := ⟨_,hz,rfl⟩
  unfold pyNext
  refine wpAny_bind (wpAny_attempt (wpAny_callSpecial?_slot (name:=Str.ofString "__next__") hT PySem.F.slot_zip_next (wpAny_call_entry PySem.F.slot_zip_next hT PySem.F.entry_zip_next
   (aEY (I.ok.hd hc) DD (sR k1 X.prog X.w i1 a its.toArray (na i1 (by simp))) (sR k2 X.prog X.w i2 b jts.toArray (nb i2 (by simp))) hz hTI hTO ⟨h1,pa⟩ ⟨h2,pb⟩ (by rw [Aj,Aj]; omega) fun h' e kp he=>?_) (PySem.F.args_zip_next_1 _))))
  obtain ⟨oe,hoe,hce⟩:=he
  refine wpAny_bind (wpAny_isInstance (T := "StopIteration") (b:=true) ⟨oe,hoe,hce⟩ isSubtype_stop (wpAny_pure ⟨rfl,?_⟩))
  refine I.turnedL (t':=s.toks) [z,TO,i1,i2] (fun c o hc' e=>?_) (fun c hc'=>hf c ?_)
  ·simp only [Am,Ap,or_false,not_or] at hc'
   exact kp c o hc'.1 hc'.2.1 hc'.2.2.1 hc'.2.2.2 e
  ·simp only [Am,Ap,or_false] at hc' ⊢
   rcases hc' with r | r | r | r
   ·exact .inl r
   ·exact .inr (.inr (.inl r))
   ·exact .inr (.inr (.inr (.inl r)))
   ·exact .inr (.inr (.inr (.inr r)))
 self:=fun _ _ _ _ _ st h=>wpAny_pyIter_zip st.1 h
abbrev zh1 (k1:Sk) (h:Heap) (a:Addr):Heap:=h.push (itK k1 a)
abbrev zh2 (k1 k2:Sk) (h:Heap) (a b:Addr):Heap:=(zh1 k1 h a).push (itK k2 b)
abbrev zh3 (k1 k2:Sk) (h:Heap) (a b:Addr):Heap:=(zh2 k1 k2 h a b).push { cls:=.type "tuple",data:=.seq #[.ref h.objs.size,.ref (zh1 k1 h a).objs.size] }
abbrev zh4 (k1 k2:Sk) (h:Heap) (a b:Addr):Heap:=(zh3 k1 k2 h a b).push { cls:=.type "tuple",data:=.seq #[.none,.none] }
abbrev zh5 (k1 k2:Sk) (h:Heap) (a b:Addr):Heap:=(zh4 k1 k2 h a b).push { cls:=.type "zip",data:=.fields #[.none,.bool false,.bool false,.ref (zh2 k1 k2 h a b).objs.size,.ref (zh3 k1 k2 h a b).objs.size] }
theorem wY (k1 k2:Sk) (a b:Addr) (xs ys:Array Value) :
  Meets (Builtin.«zip.__new__» ⟨[.type "zip",.ref a,.ref b],[]⟩) (fun _ R s=>AtK k1 s.heap a xs/\AtK k2 s.heap b ys/\R (.ok (.ret (.ref (zh4 k1 k2 s.heap a b).objs.size))) { s with heap:=zh5 k1 k2 s.heap a b }) :=
 .of_wp fun prog w A R s h=>by
  obtain ⟨hp,g,d,tk,os⟩:=s
  obtain ⟨hl1,hl2,h⟩:=h
  have hsub:=sub_zip
  have hA:AtK k1 (Shared.heap ⟨hp,g,d,tk,os⟩) a xs:=hl1
  have hB:AtK k2 (Shared.heap ⟨hp.push (itK k1 a),g,d,tk,os⟩) b ys:=AtK.at hl2 fun o e=>Aa _ e
  wp_walk using wX hA,wX hB
  exact ⟨_,rfl,h⟩
section
variable {X:Cx} {es:List Expr} {x1:Nat} {tpos:Pos}
def aGl (K:PySem.W.Frag) (k1 k2:Sk) (ta:TA):TI:=fun σ H R=>ta σ H fun vs H1=>∃ a b xs ys,vs = [.ref a,.ref b]/\SqK k1 K H1 a xs/\SqK k2 K H1 b ys/\R (Itz K k1 k2 a b) H1
theorem uX (k1 k2:Sk) {a b:Expr} {ta:TA} {p pos:Pos} (hg:Gl X "zip") (hm:X.mg "zip" = none) (ha:PA X [a,b] ta) (hs:starEach [a,b] X.env = [(false,eval a X.env),(false,eval b X.env)]:=by rfl) (hs2:starEach [b] X.env = [(false,eval b X.env)]:=by rfl) :
  PI X (.Tuple es x1 tpos) (.Call (.Name "zip" p) [a,b] [] pos) (aGl X.K k1 k2 ta):=by
 intro pins s σ H R I h
 refine Call_ (iU (u:=.type "zip") I hg hm (by decide +kernel) (PyProof.Rows.callWith_type1 (thn (ha pos pins s σ H _ I h) fun us s1 hx9=>?_) (by rw [hs,hs2]) (by rw [hs2]; rfl)))
 obtain ⟨vs,H1,I1,r1,q1⟩:=hx9
 obtain ⟨l1,l2,xs,ys,rfl,hA,hB,q⟩:=q1
 obtain ⟨u1,u2,rfl,r1',r2'⟩:=mZ r1
 cases r1'
 cases r2'
 obtain ⟨its,rv,pa⟩:=I1.seqK hA
 obtain ⟨jts,rw',pb⟩:=I1.seqK hB
 refine callType_new PySem.F.called_zip (by decide) (PySem.F.typeCall_zip_2 _ _) (PySem.F.newCall_zip_2 _ _) (fun obj=>PySem.F.args_object_init_3 obj _ _) PySem.F.entry_zip_new (wY k1 k2 l1 l2 its.toArray jts.toArray) ⟨pa,pb,?_⟩
 have n1:(zh1 k1 s1.heap l1).objs.size=s1.heap.objs.size+1:=Bj ..
 have n2:(zh2 k1 k2 s1.heap l1 l2).objs.size=s1.heap.objs.size+2:=by rw [Bj,n1]
 have n3:(zh3 k1 k2 s1.heap l1 l2).objs.size=s1.heap.objs.size+3:=by rw [Bj,n2]
 have n4:(zh4 k1 k2 s1.heap l1 l2).objs.size=s1.heap.objs.size+4:=by rw [Bj,n3]
 have g5:IsZip (zh5 k1 k2 s1.heap l1 l2) (zh4 k1 k2 s1.heap l1 l2).objs.size (zh2 k1 k2 s1.heap l1 l2).objs.size (zh3 k1 k2 s1.heap l1 l2).objs.size .none:=Ag _ rfl
 have g4:IsPair (zh5 k1 k2 s1.heap l1 l2) (zh3 k1 k2 s1.heap l1 l2).objs.size .none .none:=Aa _ (Ag _ rfl)
 have g3:IsPair (zh5 k1 k2 s1.heap l1 l2) (zh2 k1 k2 s1.heap l1 l2).objs.size (.ref s1.heap.objs.size) (.ref (zh1 k1 s1.heap l1).objs.size):=Aa _ (Aa _ (Ag _ rfl))
 have g2:ItK k2 (zh5 k1 k2 s1.heap l1 l2) (zh1 k1 s1.heap l1).objs.size l2 0:=(ItK.new k2 (zh1 k1 s1.heap l1) l2).at fun o e=>Aa _ (Aa _ (Aa _ e))
 have g1:ItK k1 (zh5 k1 k2 s1.heap l1 l2) s1.heap.objs.size l1 0:=(ItK.new k1 s1.heap l1).at fun o e=>Aa _ (Aa _ (Aa _ (Aa _ e)))
 have kp:∀ c o,s1.heap.get? c=some o->(zh5 k1 k2 s1.heap l1 l2).get? c=some o:=fun c o e=>Aa _ (Aa _ (Aa _ (Aa _ (Aa _ e))))
 refine ⟨⟨_,g5,rfl⟩,wpAny_pyIter_zip (f0:=.none) g5 ?_⟩
 rw [n1,n2,n3,n4] at *
 have I2:Inv X pins σ H1 { s1 with heap:=zh5 k1 k2 s1.heap l1 l2 }:=I1.kept (t':=s1.toks) kp
 refine ⟨s1.heap.objs.size+4,[s1.heap.objs.size+4,s1.heap.objs.size+2,s1.heap.objs.size+3,s1.heap.objs.size,s1.heap.objs.size+1],_,_,H1,rfl,I2,aCi k1 k2 l1 l2 _ _ _ _ _ ?_,⟨g5,g3,⟨_,_,g4⟩,g1,g2⟩,fun c hc=>?_,q⟩
 ·intro m1 m2 h1 h2
  have d:∀ i j:Nat,i≠j->s1.heap.objs.size+i≠s1.heap.objs.size+j:=fun i j h=>by omega
  exact ⟨d 2 4 (by decide),d 3 4 (by decide),d 0 4 (by decide),d 1 4 (by decide),d 2 3 (by decide),d 2 0 (by decide),d 2 1 (by decide),d 3 0 (by decide),d 3 1 (by decide),d 0 1 (by decide),
   h1 _ (by simp),h1 _ (by simp),h1 _ (by simp),h1 _ (by simp),h2 _ (by simp),h2 _ (by simp),h2 _ (by simp),h2 _ (by simp)⟩
 ·have hc':s1.heap.objs.size<=c:=by
   simp only [Am,Ap,or_false] at hc
   rcases hc with r | r | r | r | r
   ·rw [r]; exact Cy _ _
   ·rw [r]; exact Cy _ _
   ·rw [r]; exact Cy _ _
   ·rw [r]; exact Ai _
   ·rw [r]; exact Cy _ _
  exact I1.fpOk hc' (I1.hok.fresh hc')
end
open PySem.AutoSeq1 (wpAny_loadPart')
theorem sS (l b:Addr) (items items2:Array Value) (n n2:Nat) (dd dd2:Option Addr) (sl sl2:Array (Option Value)) (hc0:items.isEmpty=true) :
  Meets (Builtin.«tuple.__add__» ⟨[.ref l,.ref b],[]⟩) (fun _ R s=>s.heap.get? l=some { cls:=.type "tuple",dict:=dd,data:=.seq items n,slots:=sl }/\s.heap.get? b=some { cls:=.type "tuple",dict:=dd2,data:=.seq items2 n2,slots:=sl2 }/\R (.ok (.ret (Value.ref b))) s) :=
 .of_wp fun prog w A R s h=>by
  obtain ⟨hp,g,d,tk,os⟩:=s
  obtain ⟨hl,hb,h⟩:=h
  have f1:=AutoSeq1.idx_int
  have f2:=AutoSeq1.sub_tuple_tuple
  wp_walk using wpAny_loadPart' hl,wpAny_loadPart' hb
  exact ⟨_,rfl,h⟩
section
variable {X:Cx}
theorem pT:OpR X (binaryOp .Add) (fun x y H Q=>∃ a b xs ys,x=.ref a/\y=.ref b/\SqT X.K H a xs/\SqT X.K H b ys/\xs.length+ys.length<=sizeLine/\∀ p H',aE H H'->SqT X.K H' p (xs++ys)->Q (.ref p) H'):=by
 intro pins s σ H x y v u Q I rx ry h
 obtain ⟨a,b,xs,ys,rfl,rfl,ha,hb,hz,q⟩:=h
 by_cases hx:xs = []
 ·subst hx
  cases rx
  cases ry
  obtain ⟨its,r1,⟨⟨cls,dd,data,sl⟩,ho,hc,n,hd⟩,_⟩:=I.tuple ha
  obtain ⟨its2,r2,⟨⟨cls2,dd2,data2,sl2⟩,ho2,hc2,n2,hd2⟩,_⟩:=I.tuple hb
  simp only at hc hd hc2 hd2
  subst hc hd hc2 hd2
  cases r1
  exact concat_meets ⟨_,ho,rfl⟩ ⟨_,ho2,rfl⟩ noFill_tuple_add seq_tuple_add PySem.F.slot_tuple_add PySem.F.entry_tuple_add (PySem.F.args_tuple_add_2 _ _)
   (sS a b _ _ n n2 dd dd2 sl sl2 rfl) ⟨ho,ho2,⟨.ref b,H,I,rfl,q b H (aE.refl H) hb⟩⟩
 ·refine aDB pins s σ H _ _ v u Q I rx ry ⟨a,b,xs,ys,rfl,rfl,ha,hb,hx,hz,fun e=>?_,fun e p hp=>?_⟩
  ·subst e
   exact q a H (aE.refl H) (by rw [Df]; exact ha)
  ·exact q p _ (aE.new hp) (SqT.of aB)
theorem lR {prog:Program} {w:World} {A:Around} {E:Value->Shared->Prop} {s:Shared} {t sl:Addr} {items:Array Value} {vl vu:Value} {lo hi:Option Int} {Q:Value->Shared->Prop} (ht:IsTup s.heap t items) (hs:s.heap.IsSliceOf sl vl vu .none) (pl:IsPart vl lo) (pu:IsPart vu hi)
  (hw:HT.sIx items.size 0 lo=0/\HT.sIx items.size items.size hi=items.size) (h:Q (.ref t) s):wpAny (model prog w) A (getItem (.ref t) (.ref sl)) Q E s:=by
 obtain ⟨os,hos,hcs,hds⟩:=id hs
 have hTs:s.TypeIs (.ref sl) "slice" := ⟨os,hos,hcs⟩
 unfold getItem
 try with_reducible refine wpAny_holding ?_
 first | refine wpAny_bind (wpAny_pure ?_) | skip
 refine wpAny_bind (wpAny_sequenceKey ht.typeIs (by decide) ?_)
 refine wpAny_bind (wpAny_callSpecial?_slot (name:=Str.ofString "__getitem__") ht.typeIs PyProof.Rows.slot_tuple_getitem
  (wpAny_call_entry PyProof.Rows.slot_tuple_getitem ht.typeIs entry_tuple_getitem ?_ (args_tuple_getitem _ _)))
 refine wpAny_bind (m:=Builtin.Tuple.tupleItemsOf (.ref t)) (tupleItemsOf_ ht ?_)
 refine wpAny_bind (wpAny_typeOf hTs ?_)
 rw [if_pos (by decide)]
 refine wpAny_bind (HT.sliceApplied_gen hs pl pu ?_)
 have hyes:(((HT.sIx items.size 0 lo:Nat):Int)==0 && (1:Int)==1 && (HT.sIx items.size items.size hi - HT.sIx items.size 0 lo)==items.size)=true:=by
  rw [hw.1,hw.2]; simp
 show wpAny _ _ (if (((HT.sIx items.size 0 lo:Nat):Int)==0 && (1:Int)==1 && (HT.sIx items.size items.size hi - HT.sIx items.size 0 lo)==items.size)=true then _ else _) _ _ s
 rw [if_pos hyes]
 unfold Builtin.Tuple.tupleIsExact
 refine wpAny_bind (wpAny_bind (wpAny_typeOf ht.typeIs (wpAny_pure ?_)))
 refine wpAny_ite_split (fun _=>wpAny_bind (wpAny_rule (wpAny_pure ⟨_,rfl,wpAny_pure h⟩))) (fun hab=>absurd (by rfl) hab)
theorem pU:SlR X (fun x lo hi H Q=>∃ a xs,x=.ref a/\SqT X.K H a xs/\∀ p H',aE H H'->SqT X.K H' p (mJ xs lo hi)->Q (.ref p) H'):=by
 intro pins s σ H x v vl vu lo hi sl Q I rx hs pl pu h
 obtain ⟨a,xs,rfl,hx,q⟩:=h
 by_cases hw:HT.sIx xs.length 0 lo=0/\HT.sIx xs.length xs.length hi=xs.length
 ·cases rx
  obtain ⟨its,r,ht,hz⟩:=I.tuple hx
  have hlen:its.toArray.size=xs.length:=by rw [Aj]; exact r.length.symm
  refine ⟨"tuple",_,PyProof.Rows.slot_tuple_getitem.lookup,ht.typeIs,?_⟩
  refine lR ht hs pl pu (by rw [hlen]; exact hw) ⟨.ref a,H,I,rfl,q a H (aE.refl H) ?_⟩
  have e:mJ xs lo hi=xs:=by
   unfold mJ
   rw [hw.1,hw.2,Fc,Gv,Bv]
  rw [e]; exact hx
 ·exact aEQ pins s σ H _ v vl vu lo hi sl Q I rx hs pl pu ⟨a,xs,rfl,hx,hw,fun p hp=>q p _ (aE.new hp) (SqT.of aB)⟩
theorem aAw (xs:List V) (k:Nat):mJ xs none (some (k:Int))=xs.take k:=by
 unfold mJ
 rw [HT.sIx_none,HT.sIx_nat,Fc,Gv]
 by_cases h:k<=xs.length
 ·rw [Nat.min_eq_left h]
 ·rw [Nat.min_eq_right (by omega),Bi (Ai _),Bi (by omega)]
theorem tQ (xs:List V) (k:Nat):mJ xs (some (k:Int)) none=xs.drop k:=by
 unfold mJ
 rw [HT.sIx_none,HT.sIx_nat]
 by_cases h:k<=xs.length
 ·rw [Nat.min_eq_left h,Bi (by rw [Cn]; exact Ai _)]
 ·rw [Nat.min_eq_right (by omega),Fs (Ai _),Fs (by omega),List.take_nil]
end
def aAx (N frn:List Str) (fr:List Nat):Bool:=frn.length==fr.length && (frn.zip fr).all fun y=>N[y.2]?==some y.1
theorem aU {X:Cx} {scope:Scope} {own frn:List Str} {fr:List Nat} (sc:Scope) (N:List Str) (h1:X.env.scope=sc) (h2:X.N=N) (h:(oC sc scope own frn && aAx N frn fr)=true):CompOk X scope own fr frn:=by
 rw [Az] at h
 obtain ⟨ha,hb⟩:=h
 unfold aAx at hb
 simp only [Az,beq_iff_eq,Bf] at hb
 refine ⟨by rw [h1]; exact ha,fun k x hk=>?_,hb.1.symm⟩
 have hlt:k < fr.length:=by rw [<- hb.1]; exact (Ad.mp hk).1
 refine ⟨fr[k],Ae hlt,?_⟩
 have hm:(x,fr[k])∈frn.zip fr:=by
  refine Ah (i:=k) ?_
  rw [By]
  exact ⟨hk,Ae hlt⟩
 rw [h2]
 exact hb.2 _ hm
section
variable {J:It} {own:Nat} {fr:List Nat} {g:TG} {tt:TT} {te:TE} {σ:St} {H:Hp} {Q:Hp->List V->Prop}
theorem lG (n:Nat) (hn:n<=sizeLine) (SH:St->Prop) (Pv:Nat->List V->Hp->Prop) (hσ:SH (blk own fr σ)) (h0:Pv 0 [] H) (hlen:∀ i ys H,Pv i ys H->ys.length<=i)
  (hstop:∀ ys H,Pv n ys H->J.stop n H) (hgo:∀ i ys H,i < n->Pv i ys H->J.go i H)
  (hs:∀ i ys σ x H H',i < n->SH σ->Pv i ys H->J.yld i H x H'->ys.length < sizeLine->g x σ H' fun σ2 H2=>tt σ2 H2 fun b H3=>if b=true then te σ2 H3 fun y H4=>ys.length < sizeLine/\SH σ2/\Pv (i+1) (ys++[y]) H4 else SH σ2/\Pv (i+1) ys H3)
  (hd:∀ ys H,Pv n ys H->Q H ys) :
  ∃ W:Nat->Nat->List V->St->Hp->Prop,(∃ m,W 0 m [] (blk own fr σ) H)/\∀ i m ys σ' H,W i m ys σ' H ->
   (J.stop i H/\Q H ys) ∨
   (J.go i H/\∃ N:List V->St->Hp->Prop,(∀ ys' σ2 H2,N ys' σ2 H2->∃ m',m' < m/\W (i+1) m' ys' σ2 H2) /\
    ∀ x H',J.yld i H x H'->g x σ' H' fun σ2 H2=>tt σ2 H2 fun b H3=>if b=true then te σ2 H3 fun y H4=>ys.length < sizeLine/\N (ys++[y]) σ2 H4 else N ys σ2 H3):=by
 refine ⟨fun i m ys σ' H=>m=n - i/\i<=n/\SH σ'/\Pv i ys H,⟨n,by simp,Bo _,hσ,h0⟩,?_⟩
 rintro i m ys σ' H ⟨rfl,hi,sh,p⟩
 by_cases hlt:i < n
 ·refine .inr ⟨hgo i ys H hlt p,fun ys' σ2 H2=>SH σ2/\Pv (i+1) ys' H2,fun ys' σ2 H2 ⟨e,q⟩=>⟨n - (i+1),by omega,rfl,hlt,e,q⟩,fun x H' y=>?_⟩
  exact hs i ys σ' x H H' hlt sh p y (by have:=hlen i ys H p; omega)
 ·have e:i=n:=by omega
  subst e
  exact .inl ⟨hstop ys H p,hd ys H p⟩
theorem gA {K:PySem.W.Frag} {a:Addr} {xs:List V} (SH:St->Prop) (Pv:Nat->List V->Hp->Prop) (hn:xs.length<=sizeLine) (hσ:SH (blk own fr σ)) (h0:Pv 0 [] H) (hlen:∀ i ys H,Pv i ys H->ys.length<=i) (hl:∀ i ys H,Pv i ys H->SqT K H a xs)
  (hs:∀ i ys σ x H,xs[i]?=some x->SH σ->Pv i ys H->ys.length < sizeLine->g x σ H fun σ2 H2=>tt σ2 H2 fun b H3=>if b=true then te σ2 H3 fun y H4=>ys.length < sizeLine/\SH σ2/\Pv (i+1) (ys++[y]) H4 else SH σ2/\Pv (i+1) ys H3)
  (hd:∀ ys H,Pv xs.length ys H->Q H ys) :
  ∃ W:Nat->Nat->List V->St->Hp->Prop,(∃ m,W 0 m [] (blk own fr σ) H)/\∀ i m ys σ' H,W i m ys σ' H ->
   ((Itt K a).stop i H/\Q H ys) ∨
   ((Itt K a).go i H/\∃ N:List V->St->Hp->Prop,(∀ ys' σ2 H2,N ys' σ2 H2->∃ m',m' < m/\W (i+1) m' ys' σ2 H2) /\
    ∀ x H',(Itt K a).yld i H x H'->g x σ' H' fun σ2 H2=>tt σ2 H2 fun b H3=>if b=true then te σ2 H3 fun y H4=>ys.length < sizeLine/\N (ys++[y]) σ2 H4 else N ys σ2 H3):=by
 refine lG xs.length hn SH Pv hσ h0 hlen (fun ys H p=>⟨xs,hl _ _ _ p,Ai _⟩) (fun i ys H hi p=>⟨xs,xs[i],hl _ _ _ p,Ae hi⟩) (fun i ys σ x H H' hi sh p y hz=>?_) hd
 obtain ⟨e,y⟩:=y
 subst e
 exact hs i ys σ x _ (y xs (hl _ _ _ p)) sh p hz
theorem oF {K:PySem.W.Frag} {a:Addr} {xs:List V} (SH:St->Prop) (Pv:Nat->List V->Hp->Prop) (hn:xs.length<=sizeLine) (hσ:SH (blk own fr σ)) (h0:Pv 0 [] H) (hlen:∀ i ys H,Pv i ys H->ys.length<=i) (hl:∀ i ys H,Pv i ys H->SqL K H a xs)
  (hs:∀ i ys σ x H,xs[i]?=some x->SH σ->Pv i ys H->ys.length < sizeLine->g x σ H fun σ2 H2=>tt σ2 H2 fun b H3=>if b=true then te σ2 H3 fun y H4=>ys.length < sizeLine/\SH σ2/\Pv (i+1) (ys++[y]) H4 else SH σ2/\Pv (i+1) ys H3)
  (hd:∀ ys H,Pv xs.length ys H->Q H ys) :
  ∃ W:Nat->Nat->List V->St->Hp->Prop,(∃ m,W 0 m [] (blk own fr σ) H)/\∀ i m ys σ' H,W i m ys σ' H ->
   ((Itl K a).stop i H/\Q H ys) ∨
   ((Itl K a).go i H/\∃ N:List V->St->Hp->Prop,(∀ ys' σ2 H2,N ys' σ2 H2->∃ m',m' < m/\W (i+1) m' ys' σ2 H2) /\
    ∀ x H',(Itl K a).yld i H x H'->g x σ' H' fun σ2 H2=>tt σ2 H2 fun b H3=>if b=true then te σ2 H3 fun y H4=>ys.length < sizeLine/\N (ys++[y]) σ2 H4 else N ys σ2 H3):=by
 refine lG xs.length hn SH Pv hσ h0 hlen (fun ys H p=>⟨xs,hl _ _ _ p,Ai _⟩) (fun i ys H hi p=>⟨xs,xs[i],hl _ _ _ p,Ae hi⟩) (fun i ys σ x H H' hi sh p y hz=>?_) hd
 obtain ⟨e,y⟩:=y
 subst e
 exact hs i ys σ x _ (y xs (hl _ _ _ p)) sh p hz
theorem fQ {lo:Int} {n:Nat} (SH:St->Prop) (Pv:Nat->List V->Hp->Prop) (hn:n<=sizeLine) (hσ:SH (blk own fr σ)) (h0:Pv 0 [] H) (hlen:∀ i ys H,Pv i ys H->ys.length<=i)
  (hs:∀ i ys σ H,i < n->SH σ->Pv i ys H->ys.length < sizeLine->g (.int (lo+i)) σ H fun σ2 H2=>tt σ2 H2 fun b H3=>if b=true then te σ2 H3 fun y H4=>ys.length < sizeLine/\SH σ2/\Pv (i+1) (ys++[y]) H4 else SH σ2/\Pv (i+1) ys H3)
  (hd:∀ ys H,Pv n ys H->Q H ys) :
  ∃ W:Nat->Nat->List V->St->Hp->Prop,(∃ m,W 0 m [] (blk own fr σ) H)/\∀ i m ys σ' H,W i m ys σ' H ->
   ((Itr lo n).stop i H/\Q H ys) ∨
   ((Itr lo n).go i H/\∃ N:List V->St->Hp->Prop,(∀ ys' σ2 H2,N ys' σ2 H2->∃ m',m' < m/\W (i+1) m' ys' σ2 H2) /\
    ∀ x H',(Itr lo n).yld i H x H'->g x σ' H' fun σ2 H2=>tt σ2 H2 fun b H3=>if b=true then te σ2 H3 fun y H4=>ys.length < sizeLine/\N (ys++[y]) σ2 H4 else N ys σ2 H3):=by
 refine lG n hn SH Pv hσ h0 hlen (fun ys H p=>Ai _) (fun i ys H hi p=>hi) (fun i ys σ x H H' hi sh p y hz=>?_) hd
 obtain ⟨e,y⟩:=y
 subst e y
 exact hs i ys σ _ hi sh p hz
theorem aCj {K:PySem.W.Frag} {k1 k2:Sk} {a b:Addr} {xs ys:List V} (SH:St->Prop) (Pv:Nat->List V->Hp->Prop) (hn:xs.length<=sizeLine) (heq:xs.length=ys.length) (hσ:SH (blk own fr σ)) (h0:Pv 0 [] H) (hlen:∀ i zs H,Pv i zs H->zs.length<=i) (hl:∀ i zs H,Pv i zs H->SqK k1 K H a xs/\SqK k2 K H b ys)
  (hs:∀ i zs σ x y p H,xs[i]?=some x->ys[i]?=some y->SH σ->Pv i zs H->H p=none->zs.length < sizeLine->g (.ref p) σ (upd H p (.tup [x,y])) fun σ2 H2=>tt σ2 H2 fun c H3=>if c=true then te σ2 H3 fun y H4=>zs.length < sizeLine/\SH σ2/\Pv (i+1) (zs++[y]) H4 else SH σ2/\Pv (i+1) zs H3)
  (hd:∀ zs H,Pv xs.length zs H->Q H zs) :
  ∃ W:Nat->Nat->List V->St->Hp->Prop,(∃ m,W 0 m [] (blk own fr σ) H)/\∀ i m ys σ' H,W i m ys σ' H ->
   ((Itz K k1 k2 a b).stop i H/\Q H ys) ∨
   ((Itz K k1 k2 a b).go i H/\∃ N:List V->St->Hp->Prop,(∀ ys' σ2 H2,N ys' σ2 H2->∃ m',m' < m/\W (i+1) m' ys' σ2 H2) /\
    ∀ x H',(Itz K k1 k2 a b).yld i H x H'->g x σ' H' fun σ2 H2=>tt σ2 H2 fun b H3=>if b=true then te σ2 H3 fun y H4=>ys.length < sizeLine/\N (ys++[y]) σ2 H4 else N ys σ2 H3):=by
 refine lG xs.length hn SH Pv hσ h0 hlen (fun zs H p=>⟨xs,ys,(hl _ _ _ p).1,(hl _ _ _ p).2,by rw [<- heq,Gw]⟩) (fun i zs H hi p=>⟨xs,ys,xs[i],ys[i]'(by omega),(hl _ _ _ p).1,(hl _ _ _ p).2,Ae hi,Ae (by omega)⟩) (fun i zs σ v H H' hi sh p y hz=>?_) hd
 obtain ⟨q,hq,rfl,hy⟩:=y
 obtain ⟨x,y,h1,h2,rfl⟩:=hy xs ys (hl _ _ _ p).1 (hl _ _ _ p).2
 exact hs i zs σ x y q H h1 h2 sh p hq hz
end
section
variable {X:Cx}
def aFJ (i j:Int):Prop:=0 < j/\j < 1267650600228229401496703205376
theorem aCk:OpR X (binaryOp .FloorDiv) (rI aFJ fun i j=>.int (i / j)):=opI fun i j _ _ _ _ _ hc q=>by
 have h1:(0:Int) < j:=hc.1
 have h2:j < 1267650600228229401496703205376:=hc.2
 refine floordiv_int (by omega) (by rw [Int.fdiv_eq_ediv_of_nonneg i (by omega)]; exact q) (.inl (PyProof.noPylong_of_log2 ?_))
 have h3:j.natAbs.log2 < 100:=(Nat.log2_lt (by omega)).mpr (by omega)
 omega
theorem lH:OpR X (compareOp .IsNot) (fun x y H Q=>∃ b c,x=.bl b/\y=.bl c/\Q (.bl (!decide (b=c))) H):=by
 intro pins s σ H x y v u Q I rx ry h
 obtain ⟨b,c,rfl,rfl,q⟩:=h
 cases rx
 cases ry
 refine isnot_bool (bN I q ?_)
 cases b <;> cases c <;> rfl
theorem wZ {α β:Type} {f g:α->Option β}:∀ {l:List α},(∀ x∈l,f x=g x)->l.filterMap f=l.filterMap g
 | [],_=>rfl
 | x::r,h=>by rw [Dk,Dk,h x (Ao ..),wZ fun y hy=>h y (Av _ hy)]
theorem aCl (xs:Array Value):((List.range xs.size).filterMap fun (k:Nat)=>xs[((xs.size:Int) - 1+(k:Int)*(-1)).toNat]?).toArray=xs.toList.reverse.toArray:=by
 have h:=HT.pick_gen xs.toList.reverse.toArray 0 xs.size
 have e:(List.range xs.size).filterMap (fun (k:Nat)=>xs[((xs.size:Int) - 1+(k:Int)*(-1)).toNat]?)=(List.range xs.size).filterMap (fun (m:Nat)=>xs.toList.reverse.toArray[(((0:Nat):Int)+(m:Int)*1).toNat]?):=by
  refine wZ fun k hk=>?_
  have hk':=Br.mp hk
  have h1:((xs.size:Int) - 1+(k:Int)*(-1)).toNat=xs.size - 1 - k:=by omega
  have h2:(((0:Nat):Int)+(k:Int)*1).toNat=k:=by omega
  rw [h1,h2]
  simp only [List.getElem?_toArray]
  rw [List.getElem?_reverse (by simpa using hk')]
  simp
 rw [e,h]
 congr 1
 rw [Fc,Bi (by simp)]
end
def Vw (S:List Addr) (H:Hp):Hp:=fun b=>if b∈S then none else H b
theorem Vw.out {S:List Addr} {H:Hp} {b:Addr} (n:b∉S):Vw S H b=H b:=by unfold Vw; rw [if_neg n]
theorem Vw.sub {S:List Addr} {H:Hp}:aE (Vw S H) H:=fun b o h=>by
 by_cases z:b∈S
 ·unfold Vw at h; rw [if_pos z] at h; cases h
 ·rw [Vw.out z] at h; exact h
theorem Vw.keep {S:List Addr} {H H':Hp} (e:∀ b o,b∉S->H b=some o->H' b=some o):aE (Vw S H) (Vw S H'):=fun b o h=>by
 by_cases z:b∈S
 ·unfold Vw at h; rw [if_pos z] at h; cases h
 ·rw [Vw.out z] at h ⊢; exact e b o z h
theorem Vw.same {S:List Addr} {H H':Hp} (e:aE H H'):aE (Vw S H) (Vw S H'):=Vw.keep fun b o _ h=>e b o h
def Fx (S:List Addr) (H:Hp):Prop:=∀ b∈S,∃ xs,H b=some (.lst xs)
theorem Fx.same {S:List Addr} {H H':Hp} (f:Fx S H) (e:aE H H'):Fx S H':=fun b hb=>let ⟨xs,h⟩:=f b hb; ⟨xs,e b _ h⟩
theorem Fx.new {S:List Addr} {H:Hp} {p:Addr} (f:Fx S H) (h:H p=none):p∉S:=fun z=>by
 obtain ⟨xs,q⟩:=f p z
 rw [q] at h; cases h
theorem Fx.nil {H:Hp}:Fx [] H:=fun _ h=>(Ap h).elim
section
variable {K:PySem.W.Frag} {S:List Addr} {H H' H0:Hp}
theorem Fx.seqT {a:Addr} {xs:List V} (f:Fx S H) (h:SqT K H a xs):SqT K (Vw S H) a xs:=by
 rcases h with (h | ⟨o,h⟩) | h
 ·exact .inl (.inl (by rw [Vw.out fun z=>by obtain ⟨ys,q⟩:=f a z; rw [q] at h; cases h]; exact h))
 ·exact .inl (.inr ⟨o,by rw [Vw.out fun z=>by obtain ⟨ys,q⟩:=f a z; rw [q] at h; cases h]; exact h⟩)
 ·exact .inr h
theorem Vw.at {p:Addr} {o:HO} (f:Fx S H) (h:H p=none):Vw S (upd H p o) p=some o:=by rw [Vw.out (f.new h)]; exact aB
def Dn (K:PySem.W.Frag) (S:List Addr) (H:Hp) (x:V):Prop:=∃ d,Den K (Vw S H) d x
def DT (K:PySem.W.Frag) (S:List Addr) (n:Nat) (H:Hp) (x:V):Prop:=∃ a xs,x=.ref a/\SqT K (Vw S H) a xs/\xs.length<=n/\∀ y∈xs,Dn K S H y
def II (_:Hp) (x:V):Prop:=∃ i,x=.int i
class Mo (R:Hp->V->Prop):Prop where
 mo:∀ {H H':Hp} {v:V},aE H H'->R H v->R H' v
theorem Dn.keep {x:V} (h:Dn K S H x) (e:aE (Vw S H) (Vw S H')):Dn K S H' x:=let ⟨d,h⟩:=h; ⟨d,e.den _ _ h⟩
theorem Dn.same {x:V} (h:Dn K S H x) (e:aE H H'):Dn K S H' x:=h.keep (Vw.same e)
theorem DT.keep {n:Nat} {x:V} (h:DT K S n H x) (e:aE (Vw S H) (Vw S H')):DT K S n H' x:=let ⟨a,xs,h1,h2,h3,h4⟩:=h; ⟨a,xs,h1,e.seqT h2,h3,fun y hy=>(h4 y hy).keep e⟩
theorem DT.same {n:Nat} {x:V} (h:DT K S n H x) (e:aE H H'):DT K S n H' x:=h.keep (Vw.same e)
instance:Mo (Dn K S):=⟨fun e h=>Dn.same h e⟩
instance {n:Nat}:Mo (DT K S n):=⟨fun e h=>DT.same h e⟩
instance:Mo II:=⟨fun _ h=>h⟩
theorem aCm (i:Int):Dn K S H (.int i):=⟨.int i,cS.mpr rfl⟩
theorem II.dn {x:V} (h:II H x):Dn K S H x:=let ⟨i,h⟩:=h; h ▸ aCm i
theorem aCn:∀ {xs:List V},(∀ x∈xs,Dn K S H x)->∃ ds,aZ K (Vw S H) ds xs
 | [],_=>⟨[],aY.mpr rfl⟩
 | x::r,h=>by
  obtain ⟨d,hd⟩:=h x (Ao ..)
  obtain ⟨ds,hds⟩:=aCn (xs:=r) fun y hy=>h y (Av _ hy)
  exact ⟨d::ds,aS.mpr ⟨x,r,rfl,hd,hds⟩⟩
theorem DT.dn {n:Nat} {x:V} (h:DT K S n H x):Dn K S H x:=by
 obtain ⟨a,xs,rfl,h2,_,h4⟩:=h
 obtain ⟨ds,hds⟩:=aCn h4
 exact ⟨.tuple ds,bV.mpr ⟨a,xs,rfl,h2,hds⟩⟩
theorem aDG {l:List Int}:∀ x∈l.map V.int,Dn K S H x:=fun x hx=>by
 obtain ⟨i,_,rfl⟩:=Bd.mp hx
 exact aCm i
theorem DT.ints {a:Addr} {l:List Int} {n:Nat} (f:Fx S H) (h:SqT K H a (l.map V.int)) (hn:l.length<=n):DT K S n H (.ref a):=⟨a,_,rfl,f.seqT h,by rw [Ac]; exact hn,aDG⟩
def Al (H0:Hp) (S:List Addr) (te:TE) (σ:St) (R:Hp->V->Prop):Prop:=∀ H,aE H0 H->Fx S H->∀ Q:VK,(∀ v H',aE H H'->R H' v->Q v H')->te σ H Q
variable {σ:St} {R R':Hp->V->Prop} {te ta tb ts:TE} {t tr:TA} {tl th:TO}
theorem Al.mono (h:Al H0 S te σ R) (m:∀ H v,R H v->R' H v):Al H0 S te σ R':=fun H s f Q k=>h H s f Q fun v H' s' r=>k v H' s' (m H' v r)
theorem Al.i (h:Al H0 S te σ II):Al H0 S te σ (Dn K S):=h.mono fun _ _ r=>r.dn
theorem Al.d {n:Nat} (h:Al H0 S te σ (DT K S n)):Al H0 S te σ (Dn K S):=h.mono fun _ _ r=>r.dn
theorem aCo {xs:List V} {lo hi:Option Int} {x:V} (h:x∈mJ xs lo hi):x∈xs:=List.mem_of_mem_drop (Gf h)
instance {a:Addr} {xs:List V}:Mo (fun H v=>v=.ref a/\SqT K H a xs):=⟨fun e h=>⟨h.1,e.seqT h.2⟩⟩
instance {x:V}:Mo (fun _ v=>v=x):=⟨fun _ h=>h⟩
end
open PySem.AutoSeq1 (wpAny_loadPart')
theorem nf {b:Bool} (h:b=false):decide (b=true)=false:=by rw [h]; rfl
theorem nt {b:Bool} (h:b=true):decide (b=true)=true:=by rw [h]; rfl
theorem qS (l:Addr) (items:Array Value) (n:Nat) (dd:Option Addr) (sl:Array (Option Value)) (x:Int) (u:Tok) (h1:1 < x) (h2:x<=1000) (hne:items.isEmpty=false) (hz:items.size<=1000) :
  Meets (Builtin.«tuple.__mul__» ⟨[.ref l,.int x u],[]⟩) (fun _ R s=>s.heap.get? l=some { cls:=.type "tuple",dict:=dd,data:=.seq items n,slots:=sl }/\R (.ok (.ret (Value.ref s.heap.objs.size))) { s with heap:=s.heap.push { cls:=Value.type "tuple",data:=Data.seq (List.foldl (fun x1 x2=>x1++x2) #[] (List.replicate x.toNat items)) },toks:=s.toks }) :=
 .of_wp fun prog w A R s h=>by
  obtain ⟨hp,g,d,tk,os⟩:=s
  obtain ⟨hl,h⟩:=h
  have f1:=AutoSeq1.idx_int
  have f2:=AutoSeq1.sub_tuple_tuple
  wp_walk using wpAny_loadPart' hl
  refine wpAny_ite_false (nf (show (decide (x < -2^63) || decide (x≥2^63))=false from by rw [decide_eq_false (show ¬ x < -2^63 by omega),decide_eq_false (show ¬ x≥2^63 by omega)]; rfl)) ?_
  wp_walk using wpAny_loadPart' hl
  refine wpAny_ite_false (nf (show (items.isEmpty || x==1)=false from by rw [hne,beq_eq_false_iff_ne.mpr (show x≠1 by omega)]; rfl)) ?_
  wp_walk using wpAny_loadPart' hl
  refine wpAny_ite_false (nf (show (decide (x<=0) || items.isEmpty)=false from by rw [hne,decide_eq_false (show ¬ x<=0 by omega)]; rfl)) ?_
  wp_walk using wpAny_loadPart' hl
  have hm:(items.size:Int)*x<=1000*1000:=Int.mul_le_mul (by omega) h2 (by omega) (by omega)
  refine wpAny_ite_false (decide_eq_false (show ¬ (items.size:Int)*x > (2^63 - 1) / 8 by omega)) ?_
  wp_walk using wpAny_loadPart' hl
  refine wpAny_ite_false (nf (show decide ((items.size:Int)*x > (sizeLine:Int))=false from decide_eq_false (by rw [sizeLine_eq]; omega))) ?_
  have hsz:¬ (List.foldl (fun x1 x2=>x1++x2) #[] (List.replicate x.toNat items)).size > sizeLine:=by
   have e:=lF items.toList x.toNat []
   rw [Dr] at e
   have e2:List.foldl (fun x1 x2=>x1++x2) #[] (List.replicate x.toNat items)=(List.replicate x.toNat items.toList).flatten.toArray:=e
   rw [e2,Aj,uU,Array.length_toList,sizeLine_eq]
   have:x.toNat*items.size<=1000*1000:=Fd (by omega) hz
   omega
  wp_walk using wpAny_loadPart' hl
  exact ⟨_,rfl,h⟩
theorem qT (l:Addr) (items:Array Value) (n:Nat) (dd:Option Addr) (sl:Array (Option Value)) (x:Int) (u:Tok) (h1:1 < x) (h2:x<=1000) (hne:items.isEmpty=true) :
  Meets (Builtin.«tuple.__mul__» ⟨[.ref l,.int x u],[]⟩) (fun _ R s=>s.heap.get? l=some { cls:=.type "tuple",dict:=dd,data:=.seq items n,slots:=sl }/\R (.ok (.ret (Value.ref l))) s) :=
 .of_wp fun prog w A R s h=>by
  obtain ⟨hp,g,d,tk,os⟩:=s
  obtain ⟨hl,h⟩:=h
  have f1:=AutoSeq1.idx_int
  have f2:=AutoSeq1.sub_tuple_tuple
  wp_walk using wpAny_loadPart' hl
  refine wpAny_ite_false (nf (show (decide (x < -2^63) || decide (x≥2^63))=false from by rw [decide_eq_false (show ¬ x < -2^63 by omega),decide_eq_false (show ¬ x≥2^63 by omega)]; rfl)) ?_
  wp_walk using wpAny_loadPart' hl
  exact ⟨_,rfl,h⟩
theorem jC:fillsNumberSlot (.type "tuple") "mul" = pure false :=
 PySem.fillsNumberSlot_seq (id := "tuple.__mul__") (r:=some (.builtin "tuple.__rmul__")) PySem.F.slot_tuple_mul.lookup (by decide +kernel) PySem.F.slot_tuple_rmul.lookup (by decide +kernel)
theorem nJ:seqRepeat? (.type "tuple")=pure (some (.builtin "tuple.__mul__")):=by
 unfold seqRepeat?
 rw [PySem.seqSlot_of (T := "tuple") (name := "__mul__") (id := "tuple.__mul__") PySem.F.slot_tuple_mul.lookup (by decide +kernel),PySem.seqSlot_of (T := "tuple") (name := "__rmul__") (id := "tuple.__rmul__") PySem.F.slot_tuple_rmul.lookup (by decide +kernel)]
 rfl
theorem kO (a:Int) (t:Tok) (l:Addr) (items:Array Value) (n:Nat) (dd:Option Addr) (sl:Array (Option Value)) :
  Meets (Builtin.«int.__rmul__» ⟨[.int a t,.ref l],[]⟩) (fun _ R s=>s.heap.get? l=some { cls:=.type "tuple",dict:=dd,data:=.seq items n,slots:=sl }/\R (.ok (.ret Value.notImplemented)) s) :=
 .of_wp fun prog w A R s h=>by
  obtain ⟨hp,g,d,tk,os⟩:=s
  obtain ⟨hl,h⟩:=h
  wp_walk using wpAny_loadPart' hl
  exact ⟨_,rfl,h⟩
def aFK (K:PySem.W.Frag):R2:=fun x y H Q=>∃ a k xs,x=.ref a/\y=.int k/\SqT K H a xs/\1 < k/\k<=1000/\xs.length<=1000/\∀ p H',aE H H'->SqT K H' p (List.replicate k.toNat xs).flatten->Q (.ref p) H'
theorem aDH {X:Cx} {K:PySem.W.Frag} (hK:X.K=K):OpR X (binaryOp .Mult) (aFK K):=by
 subst hK
 intro pins s σ H x y v u Q I rx ry h
 obtain ⟨a,k,xs,rfl,rfl,ha,h1,h2,hz,q⟩:=h
 cases rx
 obtain ⟨t,rfl⟩:=ry
 obtain ⟨its,r,⟨⟨cls,dd,data,sl⟩,ho,hc,n,hd⟩,hzz⟩:=I.tuple ha
 simp only at hc hd
 subst hc hd
 have hl:=r.length
 refine wpAny_binaryOp_repeat_ref (T := "tuple") (U := "int") (by decide) ⟨_,ho,rfl⟩ (fun s'=>typeIs_int s' k t) jC PySem.F.fills_int_mul PySem.F.slot_int_rmul nJ PySem.F.slot_int_index.lookup
  (call_meets PySem.F.slot_int_rmul (typeIs_int s k t) PySem.F.entry_int_rmul (PySem.F.args_int_rmul_2 _ _) (kO k t a its.toArray n dd sl) ⟨ho,rfl,⟨_,ho,rfl⟩,?_⟩)
 by_cases hx:xs = []
 ·subst hx
  cases r
  refine call_meets PySem.F.slot_tuple_mul ⟨_,ho,rfl⟩ PySem.F.entry_tuple_mul (PySem.F.args_tuple_mul_2 _ _) (qT a _ n dd sl k t h1 h2 rfl) ⟨ho,?_⟩
  exact ⟨.ref a,H,I,rfl,q a H (aE.refl H) (by rw [List.flatten_replicate_nil]; exact ha)⟩
 ·have hne:its.toArray.isEmpty=false:=by
   cases its with
   | nil=>cases r; exact absurd rfl hx
   | cons _ _=>rfl
  refine call_meets PySem.F.slot_tuple_mul ⟨_,ho,rfl⟩ PySem.F.entry_tuple_mul (PySem.F.args_tuple_mul_2 _ _) (qS a its.toArray n dd sl k t h1 h2 hne (by rw [Aj]; omega)) ⟨ho,?_⟩
  have hnew:List.foldl (fun x1 x2=>x1++x2) #[] (List.replicate k.toNat its.toArray)=(List.replicate k.toNat its).flatten.toArray:=by
   have:=lF its k.toNat []
   rw [Dr] at this
   exact this
  rw [hnew]
  have hlen:(List.replicate k.toNat xs).flatten.length<=sizeLine:=by
   rw [uU,sizeLine_eq]
   have:k.toNat*xs.length<=1000*1000:=Fd (by omega) hz
   omega
  refine ⟨.ref _,_,I.laid (t':=s.toks) (o:=.tup (List.replicate k.toNat xs).flatten) (fun b ob q=>Aa _ q) (Ai _) ?_,rfl,q _ _ (aE.new (I.hok.fresh (Ai _))) (SqT.of aB)⟩
  exact ⟨hlen,(List.replicate k.toNat its).flatten,0,r.rep k.toNat,Ag _ rfl⟩
section
variable {X:Cx} {pins:List (Addr×Obj)} {σ:St} {H:Hp} {s:Shared}
end
section
variable {K:PySem.W.Frag} {S:List Addr} {H H' H0:Hp} {E E':Hp->V->Prop}
def DTe (K:PySem.W.Frag) (S:List Addr) (E:Hp->V->Prop) (n:Nat) (H:Hp) (x:V):Prop:=∃ a xs,x=.ref a/\SqT K (Vw S H) a xs/\xs.length<=n/\∀ y∈xs,E H y
def LTe (S:List Addr) (E:Hp->V->Prop) (n:Nat) (H:Hp) (x:V):Prop:=∃ a xs,x=.ref a/\Vw S H a=some (.lst xs)/\xs.length<=n/\∀ y∈xs,E H y
instance {n:Nat} [m:Mo E]:Mo (DTe K S E n):=⟨fun e ⟨a,xs,h1,h2,h3,h4⟩=>⟨a,xs,h1,(Vw.same e).seqT h2,h3,fun y hy=>m.mo e (h4 y hy)⟩⟩
instance {n:Nat} [m:Mo E]:Mo (LTe S E n):=⟨fun e ⟨a,xs,h1,h2,h3,h4⟩=>⟨a,xs,h1,Vw.same e _ _ h2,h3,fun y hy=>m.mo e (h4 y hy)⟩⟩
variable {σ:St} {te ta tb ts:TE} {t tr:TA} {tl th:TO}
end
section
variable {env:Env} {mH es:List Expr} {k:Nat} {pos:Pos} {a b c:Expr}
end
def qU (sc scope:Scope) (z0:Str) (own:List Str) (frn:List Str):Bool :=
 scope.kind==.function && scope.names.all (fun y=>y.2 !=.cell || y.1==z0) && scope.names.all (fun y=>y.2 !=.local || scope.names.lookup y.1==some .local) &&
 scope.names.all (fun y=>y.2 !=.free || sc.names.lookup y.1==some .cell || sc.names.lookup y.1==some .free) && decide (own++frn).Nodup &&
 frn.all (fun x=>scope.names.lookup x==some .free) && scope.names.lookup z0==some .cell && scope.names.all (fun y=>y.2 !=.free || y.1 !=z0)
structure CompOk1 (X:Cx) (scope:Scope) (z0:Str) (own:List Str) (fr:List Nat) (frn:List Str):Prop where
 ck:qU X.env.scope scope z0 own frn=true
 ix:∀ (k:Nat) (x:Str),frn[k]?=some x->∃ j:Nat,fr[k]?=some j/\X.N[j]?=some x
 len:fr.length=frn.length
 cf:∀ (n:Nat) (cl:List (Str×Addr)),cellsFrom n scope.names cl=(z0,n)::cl
 pc:∀ h:Heap,pushCells h scope.names=h.push { cls:=.type "cell",data:=.cell none }
section
variable {X:Cx} {scope:Scope} {z0:Str} {own frn:List Str} {fr:List Nat}
theorem CompOk1.parts (S:CompOk1 X scope z0 own fr frn):scope.kind=.function/\(∀ y∈scope.names,y.2=.cell->y.1=z0)/\(∀ y∈scope.names,y.2=.local->scope.names.lookup y.1=some .local) /\
  (∀ y∈scope.names,y.2=.free->X.env.scope.names.lookup y.1=some .cell∨X.env.scope.names.lookup y.1=some .free)/\(own++frn).Nodup/\(∀ x∈frn,scope.names.lookup x=some .free)/\scope.names.lookup z0=some .cell/\∀ y∈scope.names,y.2=.free->y.1≠z0:=by
 have h:=S.ck
 unfold qU at h
 simp only [Az,Bf,decide_eq_true_eq,Fv,bne_iff_ne,ne_eq,beq_iff_eq] at h
 obtain ⟨⟨⟨⟨⟨⟨⟨h1,h2⟩,h3⟩,h4⟩,h5⟩,h7⟩,h8⟩,h9⟩:=h
 refine ⟨h1,fun y hy e=>?_,fun y hy e=>?_,fun y hy e=>?_,h5,h7,h8,fun y hy e=>?_⟩
 ·rcases h2 y hy with z | z
  ·exact absurd e z
  ·exact z
 ·rcases h3 y hy with z | z
  ·exact absurd e z
  ·exact z
 ·rcases h4 y hy with (z | z) | z
  ·exact absurd e z
  ·exact .inl z
  ·exact .inr z
 ·rcases h9 y hy with z | z
  ·exact absurd e z
  ·exact z
end
section
variable {X:Cx} {scope:Scope} {z0:Str} {own frn:List Str} {fr:List Nat} {elt tg iter:Expr} {ifs:List Expr} {pos:Pos} {wi:TI} {g:TG} {tt:TT} {te:TE}
theorem CompOk1.clo {pins:List (Addr×Obj)} {σ:St} {H:Hp} {s:Shared} (S:CompOk1 X scope z0 own fr frn) (I:Inv X pins σ H s):closureFor scope X.env=pure (fP X.env scope.names []):=by
 obtain ⟨p1,p2,p3,p4,p5,p7,p8,p9⟩:=S.parts
 exact yY fun y hy e=>I.ok.has y.1 (p4 y hy e)
end
def aGm (scope sc:Scope):Scope:={ scope with names:=scope.names.map fun (n,k)=>if (k==NameKind.free && sc.kind==.function && sc.names.lookup n==some .cell) then (n,NameKind.cell) else (n,k) }
section
variable {X:Cx}
end
theorem aAy {K:PySem.W.Frag} {k1 k2:Sk} {a b:Addr} {xs ys:List V} {g:TG} {tb:TS} {D:Ends} {σ:St} {H:Hp} (Pv:Nat->St->Hp->Prop) (heq:xs.length=ys.length) (h0:Pv 0 σ H) (hl:∀ i σ H,i<=xs.length->Pv i σ H->SqK k1 K H a xs/\SqK k2 K H b ys)
  (hs:∀ i x y p σ H,xs[i]?=some x->ys[i]?=some y->Pv i σ H->H p=none->g (.ref p) σ (upd H p (.tup [x,y])) fun σ2 H2=>tb { D with nx:=Pv (i+1),ct:=Pv (i+1),bk:=D.nx } σ2 H2) (hd:∀ σ H,Pv xs.length σ H->D.nx σ H) :
  ∃ W:Nat->Nat->St->Hp->Prop,(∃ m,W 0 m σ H)/\∀ i m σ H,W i m σ H ->
   ((Itz K k1 k2 a b).stop i H/\D.nx σ H)∨((Itz K k1 k2 a b).go i H/\∃ N:St->Hp->Prop,(∀ σ' H',N σ' H'->∃ m',m' < m/\W (i+1) m' σ' H')/\∀ x H',(Itz K k1 k2 a b).yld i H x H'->g x σ H' fun σ2 H2=>tb { D with nx:=N,ct:=N,bk:=D.nx } σ2 H2):=by
 refine ⟨fun i m σ H=>m=xs.length - i/\i<=xs.length/\Pv i σ H,⟨xs.length,by simp,Bo _,h0⟩,?_⟩
 rintro i m σ H ⟨rfl,hi,p⟩
 obtain ⟨q1,q2⟩:=hl i σ H hi p
 by_cases hlt:i < xs.length
 ·refine .inr ⟨⟨xs,ys,xs[i],ys[i]'(by omega),q1,q2,Ae hlt,Ae (by omega)⟩,Pv (i+1),fun σ' H' p'=>⟨xs.length - (i+1),by omega,rfl,hlt,p'⟩,fun x H' y=>?_⟩
  obtain ⟨z,hz,rfl,hy⟩:=y
  obtain ⟨x,y,h1,h2,rfl⟩:=hy xs ys q1 q2
  exact hs i x y z σ _ h1 h2 p hz
 ·have e:i=xs.length:=by omega
  subst e
  exact .inl ⟨⟨xs,ys,q1,q2,by rw [<- heq,Gw]⟩,hd σ H p⟩
section
variable {P:Program} {w:World} {K:PySem.W.Frag} {mg:Str->Option Value} {base:Heap} {N:List Str} {qual:Str} {scope:Scope} {f:Addr} {cd:Value} {A:Around} {outer:List Env} {s0:Shared} {H0:Hp} {E:XK}
end
abbrev vbm:List Value:=[.type "ValueError",.type "Exception",.type "BaseException",.type "object"]
def qns:List Str:=["__init__", "__getattribute__", "__getattr__", "__class__"]
inductive TailN (h:Heap) (bmB:List Value):List Value->Prop
 | base:TailN h bmB bmB
 | own {A:Addr} {c0:Value} {dd:Option Addr} {cd:ClassData} {sl:Array (Option Value)} {mA:Str->Option Value} {tl:List Value} :
   h.get? A=some { cls:=c0,dict:=dd,data:=.cls cd,slots:=sl }->h.Ns cd.ns mA->(∀ n∈qns,mA n=none)->TailN h bmB tl->TailN h bmB (.ref A::tl)
theorem TailN.tail {h:Heap} {bmB tl:List Value} (T:TailN h bmB tl):OwnTail h bmB tl:=by
 induction T with
 | base=>exact .base
 | own hA hN hq _ ih=>exact .own hA hN (hq _ (.head _)) ih
theorem TailN.keeps {h h':Heap} {bmB tl:List Value} (T:TailN h bmB tl) (hk:∀ b o,h.get? b=some o->h'.get? b=some o):TailN h' bmB tl:=by
 induction T with
 | base=>exact .base
 | own hA hN hq _ ih=>exact .own (hk _ _ hA) (hN.keeps hk) hq ih
def EcH (h:Heap) (C:Addr) (bm:List Value):Prop:=∃ N nm q bs hdct sn sub ab col dd k0 k1 k2 k3 k5 mN,h.get? C=some (excClassObj nm q C N bs bm hdct sn sub ab col dd k0 k1 k2 k3 k5 "ValueError.__new__")/\h.Ns N mN/\(∀ n∈qns,mN n=none)/\TailN h vbm bm
theorem EcH.keeps {h h':Heap} {C:Addr} {bm:List Value} (x:EcH h C bm) (hk:∀ b o,h.get? b=some o->h'.get? b=some o):EcH h' C bm:=by
 obtain ⟨N,nm,q,bs,hdct,sn,sub,ab,col,dd,k0,k1,k2,k3,k5,mN,hC,hN,hq,T⟩:=x
 exact ⟨N,nm,q,bs,hdct,sn,sub,ab,col,dd,k0,k1,k2,k3,k5,mN,hk _ _ hC,hN.keeps hk,hq,T.keeps hk⟩
section
variable {M:Model} {prog:Program} {w:World} {A:Around} {E:Value->Shared->Prop} {h:Heap} {g:Array GenState} {d:Drawn} {t:Nat} {os:OsState} {a C:Addr} {o:Obj} {bm:List Value}
theorem EcH.has {T:String} (x:EcH h C bm) (hb:vbm.contains (.type T)=true):(Value.ref C::bm).contains (.type T)=true:=by
 obtain ⟨N,nm,q,bs,hdct,sn,sub,ab,col,dd,k0,k1,k2,k3,k5,mN,hC,hN,hmN,TT⟩:=x
 rw [List.contains_cons,TT.tail.hasType hb,Bool.or_true]
end
section
variable {X:Cx}
end
section
variable {P:Program} {w:World} {l:List Env} {H H':Hp} {s s':Shared} {E:XK} {a T C:Addr}
end
section
variable {X:Cx} {pins:List (Addr×Obj)} {σ:St} {H:Hp} {s s':Shared} {E:XK} {e:Value} {M:Model} {A:Around} {F:Value->Shared->Prop} {L:Addr}
end
section
variable {M:Model} {A:Around} {E:Value->Shared->Prop} {h:Heap} {g:Array GenState} {d:Drawn} {t:Nat} {os:OsState} {a C C':Addr} {oe:Obj} {bm bm':List Value}
end
section
variable {X:Cx} {k:Nat} {f:Addr} {fd:FuncData} {ps:List Str} {sp:Sp} {dvs:List V} {ds:List Value} {x:Str} {p pos apos:Pos} {e:Expr} {es:List Expr} {t:TA}
end
section
variable {X:Cx} {K:PySem.W.Frag}
end
structure PEo (X:Cx) (e:Expr) (t:TE):Prop where
 go:PE X e t
structure PAo (X:Cx) (es:List Expr) (t:TA):Prop where
 go:PA X es t
structure PSo (X:Cx) (st:Stmt) (t:TS):Prop where
 go:PS X st t
structure PSso (X:Cx) (sts:List Stmt) (t:TS):Prop where
 go:PSs X sts t
section
variable {X:Cx} {pos:Pos} {e a b:Expr} {es:List Expr} {te ta tb:TE} {t:TA} {st:Stmt} {mH:List Stmt} {ts us:TS}
end
def tDt (K:PySem.W.Frag) (Z:List Addr) (S:St->Prop) (d:PyData):TE:=fun σ H Q=>S σ/\Fx Z H/\∀ v H',aE H H'->Den K (Vw Z H') d v->Q v H'
def tDA (K:PySem.W.Frag) (Z:List Addr) (S:St->Prop) (ds:List PyData):TA:=fun σ H Q=>S σ/\Fx Z H/\∀ vs H',aE H H'->aZ K (Vw Z H') ds vs->Q vs H'
structure Dt (X:Cx) (K:PySem.W.Frag) (Z:List Addr) (S:St->Prop) (e:Expr) (d:PyData):Prop where
 go:PE X e (tDt K Z S d)
structure DA (X:Cx) (K:PySem.W.Frag) (Z:List Addr) (S:St->Prop) (es:List Expr) (ds:List PyData):Prop where
 go:PA X es (tDA K Z S ds)
section
variable {X:Cx} {K:PySem.W.Frag} {Z:List Addr} {S:St->Prop} {te:TE} {pos:Pos} {e a b:Expr} {es:List Expr} {d:PyData} {ds:List PyData}
theorem PE.imp {t t':TE} (h:PE X e t) (q:∀ σ H Q,t' σ H Q->t σ H Q):PE X e t':=fun pins s σ H Q I z=>h pins s σ H Q I (q σ H Q z)
theorem PA.imp {t t':TA} (h:PA X es t) (q:∀ σ H Q,t' σ H Q->t σ H Q):PA X es t':=fun pos pins s σ H Q I z=>h pos pins s σ H Q I (q σ H Q z)
theorem PSso.ex {sts:List Stmt} {t:TS} {R:TS->Prop} (h:PSso X sts t) (r:R t):∃ t,PSs X sts t/\R t:=⟨t,h.go,r⟩
end
section
variable {X:Cx} {tg l:Expr} {body:List Stmt} {tl:TE} {g:TG} {tb:TS} {pos:Pos}
end
def lV:List Int->Nat
 | []=>0
 | k::r=>if k∈r then lV r else lV r+1
def kA (l:List Int):Nat:=lV l.reverse
theorem aBj (l:List Int) (k:Int):kA (l++[k])=if k∈l then kA l else kA l+1:=by
 unfold kA
 rw [Gn]
 show lV (k::l.reverse)=_
 simp only [lV,List.mem_reverse]
theorem qV:∀ l:List Int,lV l<=l.length
 | []=>Ai _
 | k::r=>by
  have:=qV r
  unfold lV
  split <;> simp <;> omega
theorem aDI (l:List Int):kA l<=l.length:=by
 have:=qV l.reverse
 rwa [Ea] at this
theorem pF:∀ l:List Int,lV l=l.length↔l.Nodup
 | []=>by simp [lV]
 | k::r=>by
  have h1:=pF r
  have h2:=qV r
  unfold lV
  rw [Cu,<- h1,Bg]
  by_cases hk:k∈r
  ·rw [if_pos hk]
   constructor
   ·intro h; omega
   ·intro h; exact absurd hk h.1
  ·rw [if_neg hk]
   constructor
   ·intro h; exact ⟨hk,by omega⟩
   ·intro h; omega
theorem zH (l:List Int):kA l=l.length↔l.Nodup:=by
 have h:=pF l.reverse
 rw [Ea] at h
 unfold kA
 rw [h]
 unfold List.Nodup
 rw [List.pairwise_reverse]
 constructor <;> intro h <;> exact h.imp fun z=>Ne.symm z
section
variable {prog:Program} {w:World} {A:Around} {E:Value->Shared->Prop} {s:Shared}
theorem aBk {a:Addr} {S:Int->Bool} {n:Nat} {k:Int} {t:Tok} {Q:Bool->Shared->Prop} (hS:s.heap.SetOf (intKind prog w) a S n) (hroom:n+1 < scanBound)
  (h:∀ h',Heap.SameBut a s.heap h'->h'.SetOf (intKind prog w) a (fun k'=>S k' || decide (k'=k)) (if S k then n else n+1)->Q (!S k) { s with heap:=h',toks:=s.toks+1 }) :
  wpAny (model prog w) A (setAdd a (.int k t)) Q E s:=by
 have hkey:(intKind prog w).is k (.int k t)=true:=by simp [intKind,Value.isInt]
 unfold setAdd
 refine wpAny_bind ((intKind prog w).pyHash hkey ?_)
 exact wpAny_setAddHashed_of (s:={ s with toks:=s.toks+1 }) hkey rfl hS hroom fun h' hsb hS'=>h h' hsb hS'
theorem aCp {I S:Addr} {fp wr:List Addr} {ns:List Int} {P:Nat->Value->Prop} {St:Nat->Heap->Prop} {R:Result->Shared->Prop} (W:Walks prog w A.in1 I fp wr ns.length P St)
  (hP:∀ i v,P i v->∃ k t,ns[i]?=some k/\v=.int k t) (hfp:∀ c∈fp,c≠S) (hwr:S∉wr) (hlen:ns.length+1 < scanBound) :
  ∀ (j i:Nat) (s:Shared),i+j=ns.length->St i s.heap->s.heap.SetOf (intKind prog w) S (fun k=>decide (k∈ns.take i)) (kA (ns.take i)) ->
   (∀ h' tk,h'.SetOf (intKind prog w) S (fun k=>decide (k∈ns)) (kA ns)->(∀ b o,b≠S->b∉wr->s.heap.get? b=some o->h'.get? b=some o)->R (.ok (.ret .none)) { s with heap:=h',toks:=tk }) ->
   codeAny (model prog w) A (.builtin "set.update.loop" ⟨[.ref S,.ref I],[]⟩) R s:=by
 intro j
 induction j with
 | zero =>
  intro i s hi st hS h
  have e:i=ns.length:=by omega
  subst e
  rw [Bv] at hS
  refine qP W st fun h' tk k=>h h' tk ?_ fun b o _ hb e=>k b o hb e
  obtain ⟨o,es,ep,t,e,c⟩:=hS
  exact ⟨o,es,ep,t,k _ _ hwr e,c⟩
 | succ j ih =>
  intro i s hi st hS h
  refine nH W (i:=i) (by omega) st fun v h2 tk2 hv st2 k2=>?_
  obtain ⟨k,t,hk,rfl⟩:=hP i v hv
  have hS2:h2.SetOf (intKind prog w) S (fun k=>decide (k∈ns.take i)) (kA (ns.take i)):=by
   obtain ⟨o,es,ep,t,e,c⟩:=hS
   exact ⟨o,es,ep,t,k2 _ _ hwr e,c⟩
  have hd:=aDI (ns.take i)
  rw [Ax] at hd
  refine aBk (s:={ s with heap:=h2,toks:=tk2 }) hS2 (by omega) fun h3 sb hS3=>?_
  have et:ns.take (i+1)=ns.take i++[k]:=by rw [Bm,hk]; rfl
  refine ih (i+1) _ (by omega) (W.frame _ _ _ st2 fun c hc o e=>(sb.2 c (hfp c hc)).trans e) ?_ fun h' tk hS' kp=>?_
  ·have e1:(fun k_1=>decide (k_1∈ns.take (i+1)))=(fun k'=>decide (k'∈ns.take i) || decide (k'=k)):=by
    funext k'
    rw [et]
    simp
   have e2:kA (ns.take (i+1))=if decide (k∈ns.take i)=true then kA (ns.take i) else kA (ns.take i)+1:=by
    rw [et,aBj]
    by_cases z:k∈ns.take i
    ·rw [if_pos z,if_pos (decide_eq_true z)]
    ·rw [if_neg z,if_neg (by simpa using z)]
   rw [e1,e2]
   exact hS3
  ·exact h h' tk hS' fun b o nb hb e=>kp b o nb hb ((sb.2 b nb).trans (k2 b o hb e))
set_option maxHeartbeats 3200000 in
theorem sT {l:Addr} {its:Array Value} {ns:List Int} {Q:Value->Shared->Prop} (hh:A.handled=none) (hl:s.heap.IsList l its) (hi:IntsAre its.toList ns) (hlen:ns.length+1 < scanBound)
  (h:∀ (h':Heap) (tk:Nat),h'.SetOf (intKind prog w) s.heap.objs.size (fun k=>decide (k∈ns)) (kA ns)->(∀ b o,b < s.heap.objs.size->s.heap.get? b=some o->h'.get? b=some o)->Q (.ref s.heap.objs.size) { s with heap:=h',toks:=tk }) :
  wpAny (model prog w) A (call (.type "set") [.ref l]) Q E s:=by
 obtain ⟨c,tl,hmro⟩:=PySem.F.called_set.mro
 have hmade:=PySem.F.called_set.made
 have hsub:=PySem.F.called_set.sub
 refine wpAny_call (codeAny_of_tree ?_)
 show wpAny _ _ (callAny (.type "set") _) _ _ _
 refine wpAny_pure ⟨Code.quiet_builtin _ (by decide +kernel),codeAny_builtin PySem.F.entry_type_call ?_⟩
 rw [Around.under_plain (weight_type_call_type "set" [.ref l] []) rfl]
 have h1:=PySem.F.called_set.notType
 have h2:=PySem.F.called_set.canCreate
 have hct:=PySem.F.typeCall_set_1 (.ref l)
 repeat (any_goals (first | assumption | wp_step))
 refine codeAny_mono (iE (.ref l) (E:=E) (Q₁:=fun obj s₁=>obj=.ref s.heap.objs.size/\s₁={ s with heap:=s.heap.push { cls:=.type "set",dict:=none,data:=.set #[] 0 (.fresh 0 0 (Led w)) } }) ⟨rfl,rfl⟩) fun r s₁ hr=>?_
 cases r with
 | error e=>exact hr
 | ok fl =>
  cases fl with
  | ret obj =>
   obtain ⟨rfl,rfl⟩:=hr
   generalize hled:Led w=led at h ⊢
   have hS:(s.heap.push { cls:=.type "set",dict:=none,data:=.set #[] 0 (.fresh 0 0 led) }).get? s.heap.objs.size=some { cls:=.type "set",dict:=none,data:=.set #[] 0 (.fresh 0 0 led) }:=Ag _ rfl
   have hT:Shared.TypeIs { s with heap:=s.heap.push { cls:=.type "set",dict:=none,data:=.set #[] 0 (.fresh 0 0 led) } } (.ref s.heap.objs.size) "set" := ⟨_,hS,rfl⟩
   have hli:=PySem.F.called_set.init.lookup
   have hbi:=PySem.F.called_set.init.bind (.ref s.heap.objs.size)
   repeat (any_goals (first | assumption | wp_step))
   refine codeAny_mono (codeAny_call_builtin (R:=wants (fun r s₂=>r=.none/\∃ h' tk,s₂={ s with heap:=h',toks:=tk }/\h'.SetOf (intKind prog w) s.heap.objs.size (fun k=>decide (k∈ns)) (kA ns) /\
     (∀ b o,b < s.heap.objs.size->s.heap.get? b=some o->h'.get? b=some o)) E) PySem.F.called_set.init.plain PySem.F.entry_set_init (check_set_init_1 hT ?_)) fun r₂ s₂ hr₂=>?_
   ·obtain ⟨ol,hol,hcl,nl,hdl⟩:=hl
    obtain ⟨ocls,odict,odata,oslots⟩:=ol
    simp only at hcl hdl
    subst hcl; subst hdl
    have hol':(s.heap.push { cls:=.type "set",dict:=none,data:=.set #[] 0 (.fresh 0 0 led) }).get? l=some { cls:=.type "list",dict:=odict,data:=.seq its nl,slots:=oslots }:=Aa _ hol
    have hsls:=PySem.F.sub_list_set
    have hslf:=PySem.F.sub_list_frozenset
    have hne:(Value.type "list" == Value.type "dict")=false:=by decide
    have hl1:(s.heap.push { cls:=.type "set",dict:=none,data:=.set #[] 0 (.fresh 0 0 led) }).IsList l its:=⟨_,hol',rfl,nl,rfl⟩
    unfold Builtin.«set.__init__» noKeywords Builtin.Frozenset.updateFrom
    generalize hPI:pyIter=PI
    wp_walk
    subst hPI
    refine wpAny_pyIter_list hl1 ?_
    refine wpAny_bind (wpAny_runValue ?_)
    have hlS:l < s.heap.objs.size:=Ak hol
    have hh3:A.in1.in1.in1.handled=none:=by simp [hh]
    generalize hH1:s.heap.push { cls:=.type "set",dict:=none,data:=.set #[] 0 (.fresh 0 0 led) }=H1 at *
    have szH1:H1.objs.size=s.heap.objs.size+1:=by rw [<- hH1,Bj]
    have hneI:l≠H1.objs.size:=by rw [szH1]; exact As (Bz hlS)
    have W:=Walks.list (prog:=prog) (w:=w) hh3 H1.objs.size l hneI its
    have hsz:its.size=ns.length:=by rw [<- hi.length,Array.length_toList]
    rw [hsz] at W
    generalize hS0:s.heap.objs.size=S at *
    have SI:S≠H1.objs.size:=by omega
    have lS:l≠S:=As hlS
    refine aCp W (fun i v hv=>?_) (fun c hc=>?_) (by simpa using SI) hlen ns.length 0 _ (by omega) ⟨⟨_,Ag _ rfl,rfl,rfl⟩,hl1.push _⟩ ?_ fun h6 tk6 x6 k6=>?_
    ·have hv':its[i]?=some v:=hv
     have hil:i < its.toList.length:=by
      rw [Array.length_toList]
      exact (Array.getElem?_eq_some_iff.mp hv').1
     have e1:its.toList[i]?=some v:=by rw [Array.getElem?_toList]; exact hv'
     obtain ⟨k,t,e2,e3⟩:=IntsAre.at hi i v e1
     exact ⟨k,t,e3,e2⟩
    ·rcases Am.mp hc with z | z
     ·rw [z]; exact Ne.symm SI
     ·have z':c=l:=by simpa using z
      rw [z']; exact lS
    ·refine ⟨_,#[],0,_,Aa _ hS,⟨rfl,rfl,rfl⟩,rfl,fun e he=>by simp at he,fun k=>by simp,by decide,by rfl,rfl⟩
    ·show wpAny _ _ _ _ _ _
     refine wpAny_pure ?_
     show wpAny _ _ (ret Value.none) _ _ _
     refine wpAny_pure ⟨rfl,h6,tk6,rfl,x6,fun c o hc e=>?_⟩
     have c1:c≠S:=As hc
     have c2:c∉[H1.objs.size]:=by
      intro z
      have z':c=H1.objs.size:=by simpa using z
      omega
     exact k6 c o c1 c2 (Aa _ (hH1 ▸ Aa _ e))
   ·cases r₂ with
    | error e=>exact hr₂
    | ok fl₂ =>
     cases fl₂ with
     | ret r =>
      obtain ⟨rfl,h',tk,rfl,hS',hk'⟩:=hr₂
      repeat (any_goals (first | assumption | wp_step))
      exact h _ _ hS' hk'
     | _=>exact hr₂.elim
  | _=>exact hr.elim
end
theorem oG:∀ {vs:List Value} {ns:List Int},bB (ns.map V.int) vs->IntsAre vs ns
 | [],[],_=>.nil
 | v::vs,n::ns,h=>by
  cases h with
  | cons r t =>
   obtain ⟨k,rfl⟩:=r
   exact .cons n k (oG t)
 | [],n::ns,h=>by cases h
 | v::vs,[],h=>by cases h
section
variable {X:Cx}
theorem aBl {K:PySem.W.Frag} (hK:X.K=K) (hc:X.calm=true):eT X (.type "set") (fun xs H Q=>∃ (l:Addr) (ns:List Int),xs = [.ref l]/\SqL K H l (ns.map V.int)/\ns.length<=40/\∀ p,H p=none->Q (.ref p) (upd H p (.set (fun k=>decide (k∈ns)) (kA ns)))):=by
 subst hK
 intro pins s σ H xs us Q I r h
 obtain ⟨l,ns,rfl,hL,hn,q⟩:=h
 obtain ⟨u,rfl,rx⟩:=eN r
 cases rx
 obtain ⟨its,rv,pl,hz⟩:=I.list hL
 refine sT (I.ok.hd hc) pl.isList (oG rv) (Ec (Cs hn) (by decide)) fun h' tk x kp=>?_
 have kp':∀ b o,s.heap.get? b=some o->h'.get? b=some o:=fun b o e=>kp b o (Ak e) e
 have hf:=I.hok.fresh (Ai s.heap.objs.size)
 exact ⟨.ref s.heap.objs.size,_,I.laid (t':=tk) kp' (Ai _) (show bR X.prog X.w _ _ _ (.set _ _) from x),rfl,q _ hf⟩
theorem sU:eT X (.builtin "len") (fun xs H Q=>∃ p S n,xs = [.ref p]/\H p=some (.set S n)/\Q (.int (n:Nat)) H):=by
 intro pins s σ H xs us Q I r h
 obtain ⟨p,S,n,rfl,hp,q⟩:=h
 obtain ⟨u,rfl,rx⟩:=eN r
 cases rx
 obtain ⟨o,es,ep,t,ho,hex,hd,_,_,hb,hf,hn⟩:=I.hok p _ hp
 subst hn
 have hb':es.size < 2^20:=Fy hb (by decide)
 have:(2:Int)^63=9223372036854775808:=by decide
 have:(2:Nat)^20=1048576:=by decide
 exact PySem.call_len_set ho hex hd hf (by omega) ⟨.int es.size,H,I.tok _,⟨_,rfl⟩,q⟩
end
section
variable {prog:Program} {w:World} {A:Around} {E:Value->Shared->Prop} {s:Shared} {e it l:Addr} {n:Nat} {P:Nat->Value->Prop} {st:Nat->Heap->Prop}
theorem aCq {i:Nat} {old:Value} {Q:Value->Shared->Prop} (S:Sub prog w it l n P st) (hei:e≠it) (hel:l≠e) (he:IsEnum s.heap e it i old) (h1:st i s.heap) (hi:i < n)
  (hQ:∀ h' x tk,P i x->IsEnumOut h' e it ((i:Int)+1) x s.heap.objs.size->st (i+1) h'->h'.get? s.heap.objs.size=some { cls:=.type "tuple",data:=.seq #[.int i tk,x] } ->
   (∀ c o,c≠e->c≠it->s.heap.get? c=some o->h'.get? c=some o)->Q (.ref s.heap.objs.size) { s with heap:=h',toks:=s.toks+1 }) :
  wpAny (model prog w) A (Builtin.«enumerate.__next__» ⟨[.ref e],[]⟩) (fun fin s'=>∃ v,fin=.done (.ret v)/\Q v s') E s:=by
 refine wpAny_bind (m:=field (.ref e) 2) (wpAny_field he rfl (x:=.ref it) rfl ?_)
 refine wpAny_bind (m:=Builtin.SmallTypes.nextOf (.ref it)) (S.item _ i _ _ _ hi h1 fun x g1 px t1 b1=>?_)
 have e1:IsEnum g1 e it i old:=b1.extBut _ _ hei he
 refine wpAny_bind (m:=field (.ref e) 3) (wpAny_field e1 rfl (x:=rawInt i) rfl ?_)
 refine wpAny_bind (m:=field (.ref e) 4) (wpAny_field e1 rfl (x:=.none) rfl ?_)
 refine wpAny_bind (m:=mkInt i) (wpAny_mkInt ?_)
 refine wpAny_bind (m:=setField (.ref e) 3 (rawInt ((i:Int)+1))) (wpAny_setField_rec e1 (by simp) fun g2 e2 b2=>?_)
 have e2':IsEnum g2 e it ((i:Int)+1) old:=e2
 refine wpAny_bind (m:=setField (.ref e) 4 .none) (wpAny_setField_rec e2' (by simp) fun g3 e3 b3=>?_)
 have e3':IsEnum g3 e it ((i:Int)+1) old:=e3
 refine wpAny_bind (m:=newTuple [.int i s.toks,x]) (wpAny_newTuple ?_)
 have sz:g3.objs.size=s.heap.objs.size:=by rw [b3.1,b2.1,b1.1]
 have e4:IsEnum (g3.push { cls:=.type "tuple",data:=.seq #[.int i s.toks,x] }) e it ((i:Int)+1) old:=Aa _ e3'
 have T4:(g3.push { cls:=.type "tuple",data:=.seq #[.int i s.toks,x] }).get? s.heap.objs.size=some { cls:=.type "tuple",data:=.seq #[.int i s.toks,x] }:=by rw [<- sz]; exact Ag _ rfl
 have kp4:∀ c o,c≠e->c≠it->s.heap.get? c=some o->(g3.push { cls:=.type "tuple",data:=.seq #[.int i s.toks,x] }).get? c=some o:=fun c o c1 c2 q =>
  Aa _ (b3.extBut _ _ c1 (b2.extBut _ _ c1 (b1.extBut _ _ c2 q)))
 have t4:st (i+1) (g3.push { cls:=.type "tuple",data:=.seq #[.int i s.toks,x] }):=S.keep _ _ _ t1 fun c hc o q=>by
  have c1:c≠e:=by rcases hc with r | r <;> rw [r]; exact Ne.symm hei; exact hel
  exact Aa _ (b3.extBut _ _ c1 (b2.extBut _ _ c1 q))
 have elt:s.heap.objs.size≠e:=Cb (Ak he)
 rw [sz]
 generalize g3.push { cls:=.type "tuple",data:=.seq #[.int i s.toks,x] }=g4 at e4 T4 kp4 t4 ⊢
 refine wpAny_bind (m:=Builtin.SmallTypes.ownedTupleIsFree (.ref e)) ?_
 unfold Builtin.SmallTypes.ownedTupleIsFree
 refine wpAny_bind (wpAny_field e4 rfl (x:=.none) rfl (wpAny_pure ?_))
 simp only [if_true]
 refine wpAny_bind (wpAny_rule ?_)
 refine wpAny_bind (wpAny_field e4 rfl (x:=old) rfl ?_)
 refine wpAny_bind (wpAny_setField_rec e4 (by simp) fun g5 e5 b5=>?_)
 have e5':IsEnum g5 e it ((i:Int)+1) x:=e5
 refine wpAny_bind (m:=Builtin.SmallTypes.ownedTupleHandOut (.ref e) (.ref s.heap.objs.size)) ?_
 unfold Builtin.SmallTypes.ownedTupleHandOut
 refine wpAny_bind (wpAny_setField_rec e5' (by simp) fun g6 e6 b6=>?_)
 have e6':IsEnumOut g6 e it ((i:Int)+1) x s.heap.objs.size:=e6
 refine wpAny_setField_rec e6' (by simp) fun g7 e7 b7=>?_
 have e7':IsEnumOut g7 e it ((i:Int)+1) x s.heap.objs.size:=e7
 have up:∀ c o,c≠e->g4.get? c=some o->g7.get? c=some o:=fun c o c1 q=>b7.extBut _ _ c1 (b6.extBut _ _ c1 (b5.extBut _ _ c1 q))
 refine wpAny_bind (wpAny_letGo (wpAny_pure ⟨_,rfl,hQ g7 x s.toks px e7' ?_ (up _ _ elt T4) fun c o c1 c2 q=>up c o c1 (kp4 c o c1 c2 q)⟩))
 exact S.keep _ _ _ t4 fun c hc o q=>up c o (by rcases hc with r | r <;> rw [r]; exact Ne.symm hei; exact hel) q
theorem aDJ {old:Value} {Q:Fin->Shared->Prop} (hh:A.handled=none) (S:Sub prog w it l n P st) (he:IsEnum s.heap e it n old) (h1:st n s.heap)
  (hE:∀ h' x,Heap.ExtBut it s.heap h'->(∃ o,h'.get? x=some o/\o.cls=.type "StopIteration")->E (.ref x) { s with heap:=h' }) :
  wpAny (model prog w) A (Builtin.«enumerate.__next__» ⟨[.ref e],[]⟩) Q E s:=by
 refine wpAny_bind (m:=field (.ref e) 2) (wpAny_field he rfl (x:=.ref it) rfl ?_)
 exact wpAny_bind (m:=Builtin.SmallTypes.nextOf (.ref it)) (S.done _ _ _ _ hh h1 hE)
end
def Ite (K:PySem.W.Frag) (k:Sk) (a:Addr):It :=
 ⟨fun i H => ∃ xs x, SqK k K H a xs /\ xs[i]? = some x,
  fun i H v H'=>∃ p,H p=none/\v=.ref p/\∀ xs,SqK k K H a xs->∃ x,xs[i]?=some x/\H'=upd H p (.tup [.int (i:Nat),x]),
  fun i H=>∃ xs,SqK k K H a xs/\xs.length=i⟩
theorem aBm {P:Program} {w:World} {K:PySem.W.Frag} {es:List Expr} {x1} {pos:Pos} (k:Sk) (a e it:Addr) (hei:e≠it) :
  Turn P w K (.Tuple es x1 pos) (Ite K k a) [e,it] e (fun i h=>(∃ old,IsEnum h e it i old)/\ItK k h it a i) where
 mem:=by simp
 obj:=fun i h st c hc=>by
  obtain ⟨⟨old,he⟩,h1⟩:=st
  simp only [Am,Ap,or_false] at hc
  rcases hc with rfl | rfl
  ·exact ⟨_,he,fun v q=>by cases q⟩
  ·exact h1.obj
 keep:=fun i h h' st kp=>by
  obtain ⟨⟨old,he⟩,h1⟩:=st
  exact ⟨⟨old,kp e (by simp) _ he⟩,h1.at fun o q=>kp it (by simp) o q⟩
 item:=by
  intro X hP hw hK hc i pins s σ H E I hf st hg
  subst hP hw hK
  obtain ⟨⟨old,he⟩,h1⟩:=st
  obtain ⟨xs,x,ha,hx⟩:=hg
  obtain ⟨its,rv,pa⟩:=I.seqK ha
  obtain ⟨u,hu,ru⟩:=rv.get hx
  have na:∀ c∈[e,it],a≠c:=fun c hc'=>I.seq_ne ha (hf c hc')
  have hT:s.TypeIs (.ref e) "enumerate" := ⟨_,he,rfl⟩
  have hi1:i < its.toArray.size:=by rw [Aj]; exact (Ad.mp hu).1
  unfold pyNext
  refine wpAny_bind (wpAny_attempt (wpAny_callSpecial?_slot (name:=Str.ofString "__next__") hT PySem.F.slot_enumerate_next (wpAny_call_entry PySem.F.slot_enumerate_next hT PySem.F.entry_enumerate_next
   (aCq (sR k X.prog X.w it a its.toArray (na it (by simp))) hei (na e (by simp)) he ⟨h1,pa⟩ hi1 fun h' u' tk pu he' s1 hT' kp=>wpAny_pure ?_) (PySem.F.args_enumerate_next_1 _))))
  have eu:u'=u:=by
   have q:its[i]?=some u':=by simpa using pu
   rw [hu] at q
   exact (Option.some.inj q).symm
  subst eu
  refine ⟨_,rfl,wpAny_letOwnedTupleGo_enum he' fun h2 he2 sb2=>?_⟩
  have Te:s.heap.objs.size≠e:=Cb (Ak he)
  have hT2:h2.get? s.heap.objs.size=some { cls:=.type "tuple",data:=.seq #[.int i tk,u'] }:=sb2.extBut _ _ Te hT'
  have hf0:=I.hok.fresh (Ai s.heap.objs.size)
  have fz:=I.fpOk (Ai s.heap.objs.size) hf0
  have I2:Inv X pins σ H { s with heap:=h2,toks:=s.toks+1 }:=by
   refine I.turnedL (t':=s.toks+1) [e,it] (fun c o hc' q=>?_) hf
   simp only [Am,Ap,or_false,not_or] at hc'
   exact sb2.extBut _ _ hc'.1 (kp c o hc'.1 hc'.2 q)
  have I3:Inv X pins σ (upd H s.heap.objs.size (.tup [.int (i:Nat),x])) { s with heap:=h2,toks:=s.toks+1 }:=by
   refine I2.trackO (show bR X.prog X.w _ _ _ (.tup [.int (i:Nat),x]) from ⟨by show 2<=sizeLine; rw [sizeLine_eq]; decide,[.int i tk,u'],0,.cons ⟨tk,rfl⟩ (.cons ru .nil),hT2⟩) hf0 fz.2.1 I.sz fz.2.2.2.2.1 fz.2.2.2.2.2
  refine ⟨.ref s.heap.objs.size,_,I3,rfl,⟨s.heap.objs.size,hf0,rfl,fun xs' ha'=>?_⟩,⟨⟨_,by simpa using he2⟩,s1.1.at fun o q=>sb2.extBut _ _ (Ne.symm hei) q⟩,fun c hc'=>?_⟩
  ·rw [I.seqK_inj ha' ha]
   exact ⟨x,hx,rfl⟩
  ·have cl:c≠s.heap.objs.size:=by
    obtain ⟨o,q⟩:∃ o,s.heap.get? c=some o:=by
     simp only [Am,Ap,or_false] at hc'
     rcases hc' with rfl | rfl
     ·exact ⟨_,he⟩
     ·obtain ⟨o,q,_⟩:=h1.obj; exact ⟨o,q⟩
    exact As (Ak q)
   rw [aJ cl]
   exact (hf c hc').1
 done:=by
  intro X hP hw hK hc i pins s σ H E I hf st hg
  subst hP hw hK
  obtain ⟨⟨old,he⟩,h1⟩:=st
  obtain ⟨xs,ha,hlen⟩:=hg
  obtain ⟨its,rv,pa⟩:=I.seqK ha
  have la:=rv.length
  have na:∀ c∈[e,it],a≠c:=fun c hc'=>I.seq_ne ha (hf c hc')
  have hT:s.TypeIs (.ref e) "enumerate" := ⟨_,he,rfl⟩
  have ei:i=its.toArray.size:=by rw [Aj]; omega
  subst ei
  unfold pyNext
  refine wpAny_bind (wpAny_attempt (wpAny_callSpecial?_slot (name:=Str.ofString "__next__") hT PySem.F.slot_enumerate_next (wpAny_call_entry PySem.F.slot_enumerate_next hT PySem.F.entry_enumerate_next
   (aDJ (I.ok.hd hc) (sR k X.prog X.w it a its.toArray (na it (by simp))) he ⟨h1,pa⟩ fun h' x kp hx=>?_) (PySem.F.args_enumerate_next_1 _))))
  obtain ⟨oe,hoe,hce⟩:=hx
  refine wpAny_bind (wpAny_isInstance (T := "StopIteration") (b:=true) ⟨oe,hoe,hce⟩ isSubtype_stop (wpAny_pure ⟨rfl,?_⟩))
  refine I.turnedL (t':=s.toks) [e,it] (fun c o hc' q=>?_) hf
  simp only [Am,Ap,or_false,not_or] at hc'
  exact kp c o hc'.2 q
 self:=fun _ _ _ _ _ st h=>by
  obtain ⟨⟨old,he⟩,_⟩:=st
  exact wpAny_pyIter_enum he h
theorem aBn (k:Sk) (a:Addr) (xs:Array Value) :
  Meets (Builtin.«enumerate.__new__» ⟨[.type "enumerate",.ref a],[]⟩) (fun _ R s=>AtK k s.heap a xs /\
   R (.ok (.ret (.ref (s.heap.push (itK k a)).objs.size))) { s with heap:=(s.heap.push (itK k a)).push { cls:=.type "enumerate",data:=.fields #[.none,.bool false,.ref s.heap.objs.size,rawInt 0,.none,.none] } }) :=
 .of_wp fun prog w A R s h=>by
  obtain ⟨hp,g,d,tk,os⟩:=s
  obtain ⟨hl,h⟩:=h
  have hsub:=sub_enumerate
  have hA:AtK k (Shared.heap ⟨hp,g,d,tk,os⟩) a xs:=hl
  obtain ⟨o,ho,hc⟩:∃ o,hp.get? a=some o/\(o.cls=.type "list" ∨ o.cls=.type "tuple"):=by
   cases k
   ·obtain ⟨o,e,c,_⟩:=hl; exact ⟨o,e,.inl c⟩
   ·obtain ⟨o,e,c,_⟩:=hl; exact ⟨o,e,.inr c⟩
  have hoL:(Shared.heap ⟨hp,g,d,tk,os⟩).get? a=some o:=ho
  wp_walk using AutoSeq1.wpAny_loadPart' hoL
  refine wpAny_stack_any fun st=>wpAny_pure ?_
  split
  ·rename_i c _ _ _ _ _
   cases (c==Value.type "enumerate")
   ·wp_walk using AutoSeq1.wpAny_loadPart' hoL,wX hA
    exact ⟨_,rfl,h⟩
   ·wp_walk using AutoSeq1.wpAny_loadPart' hoL,wX hA
    exact ⟨_,rfl,h⟩
  ·wp_walk using AutoSeq1.wpAny_loadPart' hoL,wX hA
   exact ⟨_,rfl,h⟩
section
variable {X:Cx} {es:List Expr} {x1:Nat} {tpos:Pos}
def aFL (K:PySem.W.Frag) (k:Sk) (ta:TA):TI:=fun σ H R=>ta σ H fun vs H1=>∃ a xs,vs = [.ref a]/\SqK k K H1 a xs/\R (Ite K k a) H1
theorem aDK (k:Sk) {a:Expr} {ta:TA} {p pos:Pos} (hg:Gl X "enumerate") (hm:X.mg "enumerate" = none) (ha:PA X [a] ta) (hs:starEach [a] X.env = [(false,eval a X.env)]:=by rfl) :
  PI X (.Tuple es x1 tpos) (.Call (.Name "enumerate" p) [a] [] pos) (aFL X.K k ta):=by
 intro pins s σ H R I h
 refine Call_ (iU (u:=.type "enumerate") I hg hm (by decide +kernel) (PyProof.Rows.callWith_type1 (thn (ha pos pins s σ H _ I h) fun us s1 hx9=>?_) hs rfl))
 obtain ⟨vs,H1,I1,r1,q1⟩:=hx9
 obtain ⟨l,xs,rfl,hA,q⟩:=q1
 obtain ⟨u1,rfl,r1'⟩:=eN r1
 cases r1'
 obtain ⟨its,rv,pa⟩:=I1.seqK hA
 refine callType_new PySem.F.called_enumerate (by decide) (PySem.F.typeCall_enumerate_1 _) (PySem.F.newCall_enumerate_1 _) (fun obj=>PySem.F.args_object_init_2 obj _) PySem.F.entry_enumerate_new (aBn k l its.toArray) ⟨pa,?_⟩
 have n1:(s1.heap.push (itK k l)).objs.size=s1.heap.objs.size+1:=Bj ..
 have g2:IsEnum ((s1.heap.push (itK k l)).push { cls:=.type "enumerate",data:=.fields #[.none,.bool false,.ref s1.heap.objs.size,rawInt 0,.none,.none] }) (s1.heap.push (itK k l)).objs.size s1.heap.objs.size 0 .none:=Ag _ rfl
 have g1:ItK k ((s1.heap.push (itK k l)).push { cls:=.type "enumerate",data:=.fields #[.none,.bool false,.ref s1.heap.objs.size,rawInt 0,.none,.none] }) s1.heap.objs.size l 0:=(ItK.new k s1.heap l).at fun o e=>Aa _ e
 have kp:∀ c o,s1.heap.get? c=some o->((s1.heap.push (itK k l)).push { cls:=.type "enumerate",data:=.fields #[.none,.bool false,.ref s1.heap.objs.size,rawInt 0,.none,.none] }).get? c=some o:=fun c o e=>Aa _ (Aa _ e)
 generalize (s1.heap.push (itK k l)).push { cls:=.type "enumerate",data:=.fields #[.none,.bool false,.ref s1.heap.objs.size,rawInt 0,.none,.none] }=h2 at g1 g2 kp ⊢
 refine ⟨⟨_,g2,rfl⟩,wpAny_pyIter_enum g2 ?_⟩
 rw [n1] at *
 have I2:Inv X pins σ H1 { s1 with heap:=h2 }:=I1.kept (t':=s1.toks) kp
 refine ⟨s1.heap.objs.size+1,[s1.heap.objs.size+1,s1.heap.objs.size],_,_,H1,rfl,I2,aBm k l (s1.heap.objs.size+1) s1.heap.objs.size (Nat.succ_ne_self _),⟨⟨_,g2⟩,g1⟩,fun c hc=>?_,q⟩
 have hc':s1.heap.objs.size<=c:=by
  simp only [Am,Ap,or_false] at hc
  rcases hc with r | r
  ·rw [r]; exact Cy _ _
  ·rw [r]; exact Ai _
 exact I1.fpOk hc' (I1.hok.fresh hc')
end
theorem aCr {n:Nat} (h:n<=1000):n<=sizeLine:=by rw [sizeLine_eq]; omega
section
variable {own:Nat} {fr:List Nat} {g:TG} {te:TE} {σ:St} {H:Hp} {Qf:Hp->List V->Prop} {K:PySem.W.Frag}
theorem aDL {vs:List V} {i:Nat} {v:V} (h:vs[i]?=some v):vs.take (i+1)=vs.take i++[v]:=by rw [Bm,h]; rfl
theorem pV {J:It} {n:Nat} {vs:List V} (SH:St->Prop) (hn:n<=1000) (hl:vs.length=n) (hσ:SH (blk own fr σ)) (hstop:∀ H',aE H H'->J.stop n H') (hgo:∀ i H',i < n->aE H H'->J.go i H')
  (hs:∀ i v x σ H1 H2,i < n->vs[i]?=some v->SH σ->aE H H1->J.yld i H1 x H2->∀ Q:V->St->Hp->Prop,(∀ σ2 H4,SH σ2->aE H1 H4->Q v σ2 H4)->g x σ H2 fun σ2 H3=>te σ2 H3 fun y H4=>Q y σ2 H4)
  (hd:∀ H',aE H H'->Qf H' vs) :
  ∃ W:Nat->Nat->List V->St->Hp->Prop,(∃ m,W 0 m [] (blk own fr σ) H)/\∀ i m ys σ' H,W i m ys σ' H ->
   (J.stop i H/\Qf H ys) ∨
   (J.go i H/\∃ N:List V->St->Hp->Prop,(∀ ys' σ2 H2,N ys' σ2 H2->∃ m',m' < m/\W (i+1) m' ys' σ2 H2) /\
    ∀ x H',J.yld i H x H'->g x σ' H' fun σ2 H2=>wQ σ2 H2 fun b H3=>if b=true then te σ2 H3 fun y H4=>ys.length < sizeLine/\N (ys++[y]) σ2 H4 else N ys σ2 H3):=by
 refine lG n (aCr hn) SH (fun i ys H'=>ys=vs.take i/\aE H H') hσ ⟨rfl,aE.refl H⟩ (fun i ys H' p=>by rw [p.1,Ax]; omega) (fun ys H' p=>hstop H' p.2) (fun i ys H' hi p=>hgo i H' hi p.2) ?_ (fun ys H' p=>?_)
 ·rintro i ys σ' x H1 H2 hi sh ⟨rfl,s1⟩ hy hz
  have hv:vs[i]?=some vs[i]:=Ae (by omega)
  have h:=hs i vs[i] x σ' H1 H2 hi hv sh s1 hy (fun y σ2 H4=>(vs.take i).length < sizeLine/\SH σ2/\(vs.take i++[y]=vs.take (i+1)/\aE H H4)) fun σ2 H4 sh2 s4=>⟨hz,sh2,(aDL hv).symm,s1.trans s4⟩
  exact h
 ·obtain ⟨rfl,s1⟩:=p
  rw [Bi (by omega)]
  exact hd H' s1
theorem xA {a:Addr} {xs vs:List V} (SH:St->Prop) (hn:xs.length<=1000) (hl:vs.length=xs.length) (ha:SqL K H a xs) (hσ:SH (blk own fr σ))
  (hs:∀ (i:Nat) x v σ H1,xs[i]?=some x->vs[i]?=some v->SH σ->aE H H1->∀ Q:V->St->Hp->Prop,(∀ σ2 H4,SH σ2->aE H1 H4->Q v σ2 H4)->g x σ H1 fun σ2 H2=>te σ2 H2 fun y H4=>Q y σ2 H4)
  (hd:∀ H',aE H H'->Qf H' vs) :
  ∃ W:Nat->Nat->List V->St->Hp->Prop,(∃ m,W 0 m [] (blk own fr σ) H)/\∀ i m ys σ' H,W i m ys σ' H ->
   ((Itl K a).stop i H/\Qf H ys) ∨
   ((Itl K a).go i H/\∃ N:List V->St->Hp->Prop,(∀ ys' σ2 H2,N ys' σ2 H2->∃ m',m' < m/\W (i+1) m' ys' σ2 H2) /\
    ∀ x H',(Itl K a).yld i H x H'->g x σ' H' fun σ2 H2=>wQ σ2 H2 fun b H3=>if b=true then te σ2 H3 fun y H4=>ys.length < sizeLine/\N (ys++[y]) σ2 H4 else N ys σ2 H3):=by
 refine pV SH hn hl hσ (fun H' s=>⟨xs,s.seqL ha,Ai _⟩) (fun i H' hi s=>⟨xs,xs[i],s.seqL ha,Ae hi⟩) (fun i v x σ H1 H2 hi hv sh s y Q k=>?_) hd
 obtain ⟨e,y⟩:=y
 subst e
 exact hs i x v σ _ (y xs (s.seqL ha)) hv sh s Q k
theorem iF {a:Addr} {xs vs:List V} (SH:St->Prop) (hn:xs.length<=1000) (hl:vs.length=xs.length) (ha:SqT K H a xs) (hσ:SH (blk own fr σ))
  (hs:∀ (i:Nat) x v σ H1,xs[i]?=some x->vs[i]?=some v->SH σ->aE H H1->∀ Q:V->St->Hp->Prop,(∀ σ2 H4,SH σ2->aE H1 H4->Q v σ2 H4)->g x σ H1 fun σ2 H2=>te σ2 H2 fun y H4=>Q y σ2 H4)
  (hd:∀ H',aE H H'->Qf H' vs) :
  ∃ W:Nat->Nat->List V->St->Hp->Prop,(∃ m,W 0 m [] (blk own fr σ) H)/\∀ i m ys σ' H,W i m ys σ' H ->
   ((Itt K a).stop i H/\Qf H ys) ∨
   ((Itt K a).go i H/\∃ N:List V->St->Hp->Prop,(∀ ys' σ2 H2,N ys' σ2 H2->∃ m',m' < m/\W (i+1) m' ys' σ2 H2) /\
    ∀ x H',(Itt K a).yld i H x H'->g x σ' H' fun σ2 H2=>wQ σ2 H2 fun b H3=>if b=true then te σ2 H3 fun y H4=>ys.length < sizeLine/\N (ys++[y]) σ2 H4 else N ys σ2 H3):=by
 refine pV SH hn hl hσ (fun H' s=>⟨xs,s.seqT ha,Ai _⟩) (fun i H' hi s=>⟨xs,xs[i],s.seqT ha,Ae hi⟩) (fun i v x σ H1 H2 hi hv sh s y Q k=>?_) hd
 obtain ⟨e,y⟩:=y
 subst e
 exact hs i x v σ _ (y xs (s.seqT ha)) hv sh s Q k
theorem aCs {k1 k2:Sk} {a b:Addr} {xs zs vs:List V} (SH:St->Prop) (hn:xs.length<=1000) (hle:xs.length<=zs.length) (hl:vs.length=xs.length) (ha:∀ H',aE H H'->SqK k1 K H' a xs/\SqK k2 K H' b zs) (hσ:SH (blk own fr σ))
  (hs:∀ (i:Nat) x z v p σ H1,xs[i]?=some x->zs[i]?=some z->vs[i]?=some v->H1 p=none->SH σ->aE H H1->∀ Q:V->St->Hp->Prop,(∀ σ2 H4,SH σ2->aE H1 H4->Q v σ2 H4)->g (.ref p) σ (upd H1 p (.tup [x,z])) fun σ2 H2=>te σ2 H2 fun y H4=>Q y σ2 H4)
  (hd:∀ H',aE H H'->Qf H' vs) :
  ∃ W:Nat->Nat->List V->St->Hp->Prop,(∃ m,W 0 m [] (blk own fr σ) H)/\∀ i m ys σ' H,W i m ys σ' H ->
   ((Itz K k1 k2 a b).stop i H/\Qf H ys) ∨
   ((Itz K k1 k2 a b).go i H/\∃ N:List V->St->Hp->Prop,(∀ ys' σ2 H2,N ys' σ2 H2->∃ m',m' < m/\W (i+1) m' ys' σ2 H2) /\
    ∀ x H',(Itz K k1 k2 a b).yld i H x H'->g x σ' H' fun σ2 H2=>wQ σ2 H2 fun b H3=>if b=true then te σ2 H3 fun y H4=>ys.length < sizeLine/\N (ys++[y]) σ2 H4 else N ys σ2 H3):=by
 refine pV SH hn hl hσ (fun H' s=>⟨xs,zs,(ha H' s).1,(ha H' s).2,by omega⟩) (fun i H' hi s=>⟨xs,zs,xs[i],zs[i]'(by omega),(ha H' s).1,(ha H' s).2,Ae hi,Ae (by omega)⟩) (fun i v x σ H1 H2 hi hv sh s y Q k=>?_) hd
 obtain ⟨q,hq,rfl,hy⟩:=y
 obtain ⟨x,z,h1,h2,rfl⟩:=hy xs zs (ha H1 s).1 (ha H1 s).2
 exact hs i x z v q σ H1 h1 h2 hv hq sh s Q k
end
section
variable {X:Cx} {st:Stmt} {mH:List Stmt} {t u:TS} {e:Expr} {te:TE} {tt:TT}
end
section
variable {X:Cx} {K:PySem.W.Frag}
theorem sV (hK:X.K=K):OpR X (compareOp .NotIn) (rIn K true):=by subst hK; exact nF
end
theorem sW (xs:Array Value):slicePick xs none none (some (-1))=xs.toList.reverse.toArray:=by
 unfold slicePick
 have e1:sliceBounds none none (some (-1)) xs.size=((xs.size:Int) - 1,-1,-1):=by simp [sliceBounds]
 rw [e1,<- aCl xs]
 congr 1
 show List.filterMap (fun x=>xs[x]?) (sliceRange ((xs.size:Int) - 1) (-1) (-1))=_
 have e2:sliceRange ((xs.size:Int) - 1) (-1) (-1)=(List.range xs.size).map fun (k:Nat)=>((xs.size:Int) - 1+(k:Int)*(-1)).toNat:=by
  unfold sliceRange
  rw [if_neg (by decide)]
  have e3:(if (xs.size:Int) - 1 > -1 then ((xs.size:Int) - 1 - -1 - -1 - 1) / (- -1) else 0).toNat=xs.size:=by
   by_cases h0:xs.size=0
   ·rw [h0]; decide
   ·rw [if_pos (by omega),show (- -1:Int)=1 from rfl,Int.ediv_one]; omega
  show (List.range (if (xs.size:Int) - 1 > -1 then ((xs.size:Int) - 1 - -1 - -1 - 1) / (- -1) else 0).toNat).map _=_
  rw [e3]
  refine Dz fun k _=>?_
  congr 1
  omega
 rw [e2,Dq]
 rfl
section
variable {X:Cx}
def aFM (K:PySem.W.Frag) (te ts:TE):TE:=fun σ H Q=>te σ H fun x H1=>ts σ H1 fun y H2=>y=.int (-1)/\∃ a xs,x=.ref a/\SqL K H2 a xs/\∀ p,H2 p=none->Q (.ref p) (upd H2 p (.lst xs.reverse))
theorem aDM {e st:Expr} {te ts:TE} {pos p2:Pos} (he:PE X e te) (hst:PE X st ts):PE X (.Subscript e (.Slice none none (some st) p2) pos) (aFM X.K te ts):=by
 intro pins s σ H Q I h
 refine Subscript_ (thn (he pins s σ H _ I h) fun v s1 hx9=>?_)
 obtain ⟨x,H1,I1,r1,q1⟩:=hx9
 refine wpAny_Slice ?_
 rw [evalPart_none]
 refine wpAny_pure ?_
 show wpAny _ _ (evalPart none X.env) _ _ s1
 rw [evalPart_none]
 refine wpAny_pure ?_
 show wpAny _ _ (evalPart (some st) X.env) _ _ s1
 rw [evalPart_some]
 refine thn (hst pins s1 σ H1 _ I1 q1) fun vst s3 hx9=>?_
 obtain ⟨y,H3,I3,r3,q3⟩:=hx9
 obtain ⟨rfl,a,xs,rfl,hx,q⟩:=q3
 obtain ⟨tk,rfl⟩:=r3
 cases r1
 have I4:Inv X pins σ H3 { s3 with heap:=s3.heap.push { cls:=.type "slice",data:=.fields #[.none,.none,.int (-1) tk] } }:=I3.kept (t':=s3.toks) fun b ob q=>Aa _ q
 obtain ⟨its,r,ht,hz⟩:=I4.list hx
 have hlen:=r.length
 have hg:wpAny (model X.prog X.w) X.A (getItem (.ref a) (.ref s3.heap.objs.size)) (EP X pins σ Q) X.xe { s3 with heap:=s3.heap.push { cls:=.type "slice",data:=.fields #[.none,.none,.int (-1) tk] } }:=by
  refine wpAny_getItem_list_slice ht.isList (Heap.IsSliceOf.new ..) .none .none (.int (-1) tk) (by decide) ?_ (by rw [Aj]; omega)
  rw [sW]
  refine ⟨.ref _,_,I4.laid (t':=s3.toks) (o:=.lst xs.reverse) (fun b ob q=>Aa _ q) (Ai _) ?_,rfl,q _ (I4.hok.fresh (Ai _))⟩
  exact ⟨by rw [Ea]; exact hz,its.reverse,0,r.reverse,Ag _ rfl⟩
 show wpAny (model X.prog X.w) X.A (subscriptTail e (.Slice none none (some st) p2) (.ref a) (.ref s3.heap.objs.size)) (EP X pins σ Q) X.xe { s3 with heap:=s3.heap.push { cls:=.type "slice",data:=.fields #[.none,.none,.int (-1) tk] } }
 exact tail_any (ops:=[.ref a,.ref s3.heap.objs.size]) ht.isList.typeIs slot_list_getitem.lookup hg (by with_unfolding_all rfl)
end
section
variable {K:PySem.W.Frag} {S:List Addr} {H H' H0:Hp} {E E':Hp->V->Prop} {σ:St} {te ta tb ts:TE} {t tr:TA} {tl th:TO}
instance {a:Addr} {xs:List V}:Mo (fun H v=>v=.ref a/\SqT K (Vw S H) a xs):=⟨fun e h=>⟨h.1,(Vw.same e).seqT h.2⟩⟩
end
section
variable {prog:Program} {w:World} {A:Around} {R:Result->Shared->Prop} {s:Shared} {elt tg iter tg2 iter2:Expr} {scope:Scope} {pos:Pos} {it acc:Value} {env:Env}
end
section
variable {X:Cx} {scope:Scope} {own frn:List Str} {fr:List Nat} {elt tg iter tg2 iter2:Expr} {pos:Pos} {wi wi2:TI} {g g2:TG} {te:TE}
end
section
variable {own:Nat} {fr:List Nat} {g g2:TG} {wi2:TI} {te:TE} {σ:St} {H:Hp} {Qf:Hp->List V->Prop} {K:PySem.W.Frag}
end
section
variable {X:Cx}
theorem aBo (bs:List Bool) (tr:Nat->Bool) (h:∀ i b,bs[i]?=some b->tr i=b):(List.range bs.length).any tr=bs.any id:=by
 rw [Cm,Cj,Cj]
 constructor
 ·rintro ⟨i,hi,q⟩
  have hi':=Br.mp hi
  rw [h i _ (Ae hi')] at q
  exact ⟨_,Ct hi',q⟩
 ·rintro ⟨b,hb,q⟩
  obtain ⟨i,hi⟩:=Ge hb
  exact ⟨i,Br.mpr (Ad.mp hi).1,by rw [h i b hi]; exact q⟩
theorem aCt (hc:X.calm=true):eT X (.builtin "any") (fun xs H Q=>∃ (p:Addr) (bs:List Bool),xs = [.ref p]/\SqL X.K H p (bs.map V.bl)/\Q (.bl (bs.any id)) H):=by
 intro pins s σ H xs us Q I r h
 obtain ⟨p,bs,rfl,hx,q⟩:=h
 obtain ⟨u,rfl,rx⟩:=eN r
 cases rx
 obtain ⟨its,rv,pl,hz⟩:=I.list hx
 have hl:=rv.length
 rw [Ac] at hl
 have hlt:p < s.heap.objs.size:=by obtain ⟨o,n,e,_⟩:=pl; exact Ak e
 refine call_any_walk (wpAny_pyIter_list pl.isList ?_)
 refine ⟨s.heap.objs.size,_,_,_,_,_,fun i=>(bs[i]?).getD false,rfl,Walks.list (A:=X.A.in1) (I.ok.hd hc) s.heap.objs.size p (As hlt) its.toArray,⟨⟨_,Ag _ rfl,rfl,rfl⟩,pl.isList.push _⟩,?_,fun h' tk hk=>?_⟩
 ·intro i v s' Q' E' hP hQ'
  have hP':its[i]?=some v:=by simpa using hP
  have hi:i < bs.length:=by rw [hl]; exact (Ad.mp hP').1
  obtain ⟨w,hw,rw'⟩:=rv.get (i:=i) (x:=.bl bs[i]) (by rw [Af,Ae hi]; rfl)
  rw [hw] at hP'
  cases hP'
  cases rw'
  have e:(bs[i]?).getD false=bs[i]:=by rw [Ae hi]; rfl
  rw [<- e]
  exact wpAny_truthy_bool hQ'
 ·have e:(List.range its.toArray.size).any (fun i=>(bs[i]?).getD false)=bs.any id:=by
   rw [Aj,<- hl]
   exact aBo bs _ fun i b hb=>by rw [hb]; rfl
  rw [e]
  refine ⟨.bl _,H,I.kept (h':=h') fun b o e=>hk b o ?_ (Aa _ e),rfl,q⟩
  intro z
  have z':b=s.heap.objs.size:=by simpa using z
  exact Bq _ (z' ▸ Ak e)
end
section
variable {κ:Type} [DecidableEq κ]
def dU (kvs:List (κ×V)) (k:κ):Option V:=(kvs.find? fun kv=>decide (kv.1=k)).map (·.2)
def jD (kvs:List (κ×V)) (k:κ) (v:V):List (κ×V) :=
 if (kvs.any fun kv=>decide (kv.1=k))=true then kvs.map (fun kv=>if kv.1=k then (kv.1,v) else kv) else kvs++[(k,v)]
def aEq (kvs:List (κ×V)) (k:κ):List (κ×V):=kvs.filter fun kv=>decide (kv.1≠k)
theorem aCu {k:κ}:dU ([]:List (κ×V)) k=none:=rfl
theorem eD {p:κ×V} {r:List (κ×V)} {k:κ} (e:p.1=k):dU (p::r) k=some p.2:=by simp [dU,Ds,e]
theorem eO {p:κ×V} {r:List (κ×V)} {k:κ} (e:¬ p.1=k):dU (p::r) k=dU r k:=by simp [dU,Ds,e]
theorem gM (k:κ):∀ kvs:List (κ×V),(kvs.any fun kv=>decide (kv.1=k))=(dU kvs k).isSome
 | []=>rfl
 | p::r=>by
  rw [Er]
  by_cases e:p.1=k
  ·simp only [eD e,decide_eq_true e,Bool.true_or,Option.isSome_some]
  ·rw [eO e,decide_eq_false e,Bool.false_or]; exact gM k r
theorem xB (k j:κ) (y:V):∀ kvs:List (κ×V),dU (kvs.map fun kv=>if kv.1=k then (kv.1,y) else kv) j=(dU kvs j).map fun x=>if j=k then y else x
 | []=>rfl
 | p::r=>by
  have ih:=xB k j y r
  rw [Ba]
  by_cases h:p.1=k
  ·rw [if_pos h]
   by_cases e:p.1=j
   ·rw [eD (p:=(p.1,y)) e,eD e,Cv,if_pos (e.symm.trans h)]
   ·rw [eO (p:=(p.1,y)) e,eO e,ih]
  ·rw [if_neg h]
   by_cases e:p.1=j
   ·rw [eD (p:=p) e,eD e,Cv,if_neg (fun z=>h (e.trans z))]
   ·rw [eO (p:=p) e,eO e,ih]
theorem oH (k j:κ) (y:V):∀ kvs:List (κ×V),dU kvs k=none->dU (kvs++[(k,y)]) j=if j=k then some y else dU kvs j
 | [],_=>by
  by_cases e:k=j
  ·rw [if_pos e.symm]; exact eD (p:=(k,y)) e
  ·rw [if_neg (fun z=>e z.symm)]; exact eO (p:=(k,y)) e
 | p::r,hn=>by
  rw [Fp]
  have hk:¬ p.1=k:=fun z=>by rw [eD z] at hn; cases hn
  rw [eO hk] at hn
  have ih:=oH k j y r hn
  by_cases e:p.1=j
  ·rw [eD e,eD e,if_neg (fun z=>hk (e.trans z))]
  ·rw [eO e,eO e,ih]
theorem xC (kvs:List (κ×V)) (k j:κ) (y:V):dU (jD kvs k y) j=if j=k then some y else dU kvs j:=by
 unfold jD
 by_cases a:(kvs.any fun kv=>decide (kv.1=k))=true
 ·rw [if_pos a,xB]
  rw [gM] at a
  by_cases e:j=k
  ·obtain ⟨x,hx⟩:=Fg.mp a
   rw [if_pos e,e,hx,Cv,if_pos rfl]
  ·rw [if_neg e]
   cases dU kvs j with
   | none=>rfl
   | some x=>rw [Cv,if_neg e]
 ·rw [if_neg a]
  refine oH k j y kvs ?_
  rw [gM] at a
  cases q:dU kvs k with
  | none=>rfl
  | some x=>rw [q] at a; exact (a rfl).elim
theorem iQ (kvs:List (κ×V)) (k:κ) (v:V):(jD kvs k v).length<=kvs.length+1:=by
 unfold jD
 split
 ·rw [Ac]; omega
 ·rw [Aq,Bg,Da]; omega
theorem aCv {kvs:List (κ×V)} {k:κ} (v:V) (h:dU kvs k=none):jD kvs k v=kvs++[(k,v)]:=by
 unfold jD
 rw [gM,h]
 exact if_neg (by decide)
theorem pK.isSome_eq {o:Option V} {u:Option Value} (r:pK o u):o.isSome=u.isSome:=by
 cases o with
 | none => cases u with
   | none=>rfl
   | some _=>exact (show False from r).elim
 | some _ => cases u with
   | none=>exact (show False from r).elim
   | some _=>rfl
theorem pK.getD {o:Option V} {u:Option Value} {d:V} {d':Value} (r:pK o u) (rd:bI d d'):bI (o.getD d) (u.getD d'):=by
 cases o with
 | none => cases u with
   | none=>exact rd
   | some _=>exact (show False from r).elim
 | some _ => cases u with
   | none=>exact (show False from r).elim
   | some _=>exact r
theorem KV.val {kvs:List (κ×V)} {vs:List (κ×Value)} (r:KV kvs vs) (k:κ):pK (dU kvs k) (valueAt vs k):=by
 unfold KV at r
 induction r with
 | nil=>exact True.intro
 | @cons p q ps qs h t ih =>
  obtain ⟨h1,h2⟩:=h
  by_cases e:p.1=k
  ·have e':q.1=k:=h1.symm.trans e
   have b:valueAt (q::qs) k=some q.2:=by simp [valueAt,Ds,e']
   rw [eD e,b]; exact h2
  ·have e':¬ q.1=k:=fun z=>e (h1.trans z)
   have b:valueAt (q::qs) k=valueAt qs k:=by simp [valueAt,Ds,e']
   rw [eO e,b]; exact ih
theorem KV.any {kvs:List (κ×V)} {vs:List (κ×Value)} (r:KV kvs vs) (k:κ):(kvs.any fun kv=>decide (kv.1=k))=vs.any fun kv=>decide (kv.1=k):=by
 unfold KV at r
 induction r with
 | nil=>rfl
 | cons h t ih=>rw [Er,Er,ih,h.1]
theorem KV.repl {kvs:List (κ×V)} {vs:List (κ×Value)} (r:KV kvs vs) (k:κ) {y:V} {u:Value} (ry:bI y u) :
  KV (kvs.map fun kv=>if kv.1=k then (kv.1,y) else kv) (vs.map fun kv=>if kv.1=k then (kv.1,u) else kv):=by
 unfold KV at r ⊢
 induction r with
 | nil=>exact .nil
 | @cons p q ps qs h t ih =>
  rw [Ba,Ba]
  refine .cons ?_ ih
  obtain ⟨h1,h2⟩:=h
  by_cases e:p.1=k
  ·rw [if_pos e,if_pos (h1.symm.trans e)]; exact ⟨h1,ry⟩
  ·rw [if_neg e,if_neg (fun z=>e (h1.trans z))]; exact ⟨h1,h2⟩
theorem KV.put {kvs:List (κ×V)} {vs:List (κ×Value)} (r:KV kvs vs) (k:κ) {y:V} {u:Value} (ry:bI y u):KV (jD kvs k y) (stored vs k u):=by
 unfold jD stored
 rw [r.any k]
 by_cases e:(vs.any fun kv=>decide (kv.1=k))=true
 ·rw [if_pos e,if_pos e]; exact r.repl k ry
 ·rw [if_neg e,if_neg e]; exact Paired.snoc r ⟨rfl,ry⟩
theorem KV.drop {kvs:List (κ×V)} {vs:List (κ×Value)} (r:KV kvs vs) (k:κ):KV (aEq kvs k) (without vs k):=by
 unfold KV at r ⊢
 unfold aEq without
 induction r with
 | nil=>exact .nil
 | @cons p q ps qs h t ih =>
  obtain ⟨h1,h2⟩:=h
  rw [List.filter_cons,List.filter_cons]
  by_cases e:p.1=k
  ·have a:¬ decide (p.1≠k)=true:=by simp [e]
   have b:¬ decide (q.1≠k)=true:=by simp [h1.symm.trans e]
   rw [if_neg a,if_neg b]; exact ih
  ·have e':¬ q.1=k:=fun z=>e (h1.trans z)
   have a:decide (p.1≠k)=true:=by simp [e]
   have b:decide (q.1≠k)=true:=by simp [e']
   rw [if_pos a,if_pos b]; exact .cons ⟨h1,h2⟩ ih
theorem KV.keys {kvs:List (κ×V)} {vs:List (κ×Value)} (r:KV kvs vs):kvs.map (·.1)=vs.map (·.1):=by
 unfold KV at r
 induction r with
 | nil=>rfl
 | cons h t ih=>rw [Ba,Ba,ih,h.1]
theorem KV.length {kvs:List (κ×V)} {vs:List (κ×Value)} (r:KV kvs vs):kvs.length=vs.length:=Paired.length r
end
theorem tR {P:Program} {w:World} {k:Key} {u:Value} (r:bI (kV k) u):(cM P w).is k u=true:=by
 cases k with
 | inl i=>obtain ⟨t,e⟩:=(show ∃ t,u=Value.int i t from r); subst e; exact wF P w i t
 | inr x=>obtain ⟨t,e⟩:=(show ∃ t,u=Value.str x t from r); subst e; exact wG P w x t
theorem tS {P:Program} {w:World}:∀ {ks:List Key} {us:List Value},bB (ks.map kV) us->ItemsAre (cM P w) ks us
 | [],_,r=>by rw [Ey] at r; cases r; exact .nil
 | k::ks,_,r=>by
  rw [Ba] at r
  cases r with
  | cons h t=>exact .cons (tR h) (tS t)
abbrev KT (H:Hp):List (List Key×V)->List (List Key×Addr×Value)->Prop:=Paired fun p q=>p.1=q.1/\H q.2.1=some (.tup (p.1.map kV))/\bI p.2 q.2.2
theorem KT.val {H:Hp} {kvs:List (List Key×V)} {xs:List (List Key×Addr×Value)} (r:KT H kvs xs) (k:List Key):pK (dU kvs k) ((atKey xs k).map (·.2)):=by
 induction r with
 | nil=>exact True.intro
 | @cons p q ps qs h t ih =>
  obtain ⟨h1,_,h2⟩:=h
  by_cases e:p.1=k
  ·have e':q.1=k:=h1.symm.trans e
   have b:atKey (q::qs) k=some q.2:=by simp [atKey,Ds,e']
   rw [eD e,b]; exact h2
  ·have e':¬ q.1=k:=fun z=>e (h1.trans z)
   have b:atKey (q::qs) k=atKey qs k:=by simp [atKey,Ds,e']
   rw [eO e,b]; exact ih
theorem KT.repl {H:Hp} {kvs:List (List Key×V)} {xs:List (List Key×Addr×Value)} (r:KT H kvs xs) (k:List Key) {y:V} {u:Value} (ry:bI y u) :
  KT H (kvs.map fun kv=>if kv.1=k then (kv.1,y) else kv) (xs.map (putAt k u)):=by
 induction r with
 | nil=>exact .nil
 | @cons p q ps qs h t ih =>
  rw [Ba,Ba]
  refine .cons ?_ ih
  obtain ⟨h1,h2,h3⟩:=h
  unfold putAt
  by_cases e:p.1=k
  ·rw [if_pos e,if_pos (h1.symm.trans e)]; exact ⟨h1,h2,ry⟩
  ·rw [if_neg e,if_neg (fun z=>e (h1.trans z))]; exact ⟨h1,h2,h3⟩
theorem KT.put {H:Hp} {kvs:List (List Key×V)} {xs:List (List Key×Addr×Value)} (r:KT H kvs xs) (k:List Key) {b:Addr} {y:V} {u:Value} (hb:H b=some (.tup (k.map kV))) (ry:bI y u) :
  KT H (jD kvs k y) (storedH xs k b u):=by
 have e:(kvs.any fun kv=>decide (kv.1=k))=(atKey xs k).isSome:=by
  rw [gM,(r.val k).isSome_eq,Fi]
 unfold jD storedH
 rw [e]
 by_cases q:(atKey xs k).isSome=true
 ·rw [if_pos q,if_pos q]; exact r.repl k ry
 ·rw [if_neg q,if_neg q]; exact Paired.snoc r ⟨rfl,hb,ry⟩
theorem KT.keeps {H H':Hp} {kvs:List (List Key×V)} {xs:List (List Key×Addr×Value)} (r:KT H kvs xs) (ht:∀ b ys,H b=some (.tup ys)->H' b=some (.tup ys)):KT H' kvs xs :=
 Paired.mapP r fun _ _ z=>⟨z.1,ht _ _ z.2.1,z.2.2⟩
section
variable {P:Program} {w:World} {H:Hp} {h:Heap} {a:Addr}
theorem aEr {u:HO} (ok:HOk P w H h) (e:Rd H a u):bR P w H h a u:=e.ok ok
theorem xD {kvs:List (Key×V)} (ok:HOk P w H h) (e:Rd H a (.dK kvs)):kvs.length<=sizeLine/\(a==sysModules)=false/\∃ vs,KV kvs vs/\h.DictOf (cM P w) a vs :=
 show bR P w H h a (.dK kvs) from aEr ok e
theorem aFN {kvs:List (Key×V)} (ok:HOk P w H h) (e:H a=some (.dK kvs)):kvs.length<=sizeLine/\(a==sysModules)=false/\∃ vs,KV kvs vs/\h.DictOf (cM P w) a vs:=xD ok (.inl e)
theorem qW {ks:List Key} (ok:HOk P w H h) (e:H a=some (.tup (ks.map kV))):(tupleKind (cM P w)).is h ks a:=by
 obtain ⟨_,its,n,r,e1⟩:=(show bR P w H h a (.tup (ks.map kV)) from ok a _ e)
 exact ⟨_,its.toArray,n,e1,rfl,rfl,by simpa using tS r⟩
theorem xE {kvs:List (List Key×V)} (ok:HOk P w H h) (e:Rd H a (.dT kvs)):kvs.length<=sizeLine/\(a==sysModules)=false /\
  ∃ xs,KT H kvs xs/\h.DictOfH (tupleKind (cM P w)) a xs:=by
 obtain ⟨z,y,xs,r,o,es,ep,h1,h2,h3,h4,h5⟩:=(show bR P w H h a (.dT kvs) from aEr ok e)
 refine ⟨z,y,xs,r,o,es,ep,h1,h2,h3,h4,fun x hx=>?_,h5⟩
 have all:∀ {l:List (List Key×V)} {m:List (List Key×Addr×Value)},KT H l m->∀ x∈m,(tupleKind (cM P w)).is h x.1 x.2.1:=by
  intro l m q
  induction q with
  | nil=>intro x hx; exact nomatch hx
  | @cons p q ps qs hq t ih =>
   intro x hx
   rcases Am.mp hx with e | hx
   ·subst e
    exact qW ok (by rw [<- hq.1]; exact hq.2.1)
   ·exact ih x hx
 exact all r x hx
theorem aFO {kvs:List (List Key×V)} (ok:HOk P w H h) (e:H a=some (.dT kvs)):kvs.length<=sizeLine/\(a==sysModules)=false /\
  ∃ xs,KT H kvs xs/\h.DictOfH (tupleKind (cM P w)) a xs:=xE ok (.inl e)
end
def oI (H:Hp) (a:Addr) (y:V) (r:Option V):Prop :=
 (∃ kvs k,Rd H a (.dK kvs)/\y=kV k/\r=dU kvs k)∨∃ kvs k b,Rd H a (.dT kvs)/\y=.ref b/\H b=some (.tup (k.map kV))/\r=dU kvs k
def uY (H:Hp) (a:Addr) (y v:V) (H':Hp):Prop :=
 (∃ kvs k,H a=some (.dK kvs)/\y=kV k/\kvs.length < sizeLine/\H'=upd H a (.dK (jD kvs k v))) ∨
 ∃ kvs k b,H a=some (.dT kvs)/\y=.ref b/\H b=some (.tup (k.map kV))/\kvs.length < sizeLine/\H'=upd H a (.dT (jD kvs k v))
theorem oI.k {H:Hp} {a:Addr} {kvs:List (Key×V)} {k:Key} (e:H a=some (.dK kvs)):oI H a (kV k) (dU kvs k):=.inl ⟨kvs,k,.inl e,rfl,rfl⟩
theorem oI.t {H:Hp} {a b:Addr} {kvs:List (List Key×V)} {k:List Key} (e:H a=some (.dT kvs)) (eb:H b=some (.tup (k.map kV))):oI H a (.ref b) (dU kvs k):=.inr ⟨kvs,k,b,.inl e,rfl,eb,rfl⟩
theorem uY.k {H:Hp} {a:Addr} {kvs:List (Key×V)} {k:Key} {v:V} (e:H a=some (.dK kvs)) (hl:kvs.length < sizeLine):uY H a (kV k) v (upd H a (.dK (jD kvs k v))):=.inl ⟨kvs,k,e,rfl,hl,rfl⟩
theorem uY.t {H:Hp} {a b:Addr} {kvs:List (List Key×V)} {k:List Key} {v:V} (e:H a=some (.dT kvs)) (eb:H b=some (.tup (k.map kV))) (hl:kvs.length < sizeLine) :
  uY H a (.ref b) v (upd H a (.dT (jD kvs k v))):=.inr ⟨kvs,k,b,e,rfl,eb,hl,rfl⟩
section
variable {X:Cx} {pins:List (Addr×Obj)} {σ:St} {H:Hp} {s:Shared} {a:Addr} {y v:V} {u r:Value} {o:Option V} {A:Around} {E:Value->Shared->Prop}
theorem Inv.big (I:Inv X pins σ H s):sysModules < s.heap.objs.size:=by
 have h:mainGlobals < s.heap.objs.size:=(I.mod.glob.keeps I.bk).lt
 exact Fy (by decide) h
theorem aBp {Q:Value->Shared->Prop} (hu:A.units+1 < cLine) (I:Inv X pins σ H s) (g:oI H a y (some v)) (ry:bI y u) (h:∀ w' s',Inv X pins σ H s'->bI v w'->Q w' s') :
  wpAny (model X.prog X.w) A (getItem (.ref a) u) Q E s:=by
 rcases g with ⟨kvs,k,e,ey,l⟩ | ⟨kvs,k,b,e,ey,eb,l⟩
 ·subst ey
  obtain ⟨z,hd,vs,rel,dd⟩:=xD I.hok e
  obtain ⟨w',hw,rw'⟩:=pK.some_of (v:=v) (o:=valueAt vs k) (by rw [l]; exact rel.val k)
  exact wpAny_getItem_of (tR ry) dd.mapOf hw (h w' _ (I.tok _) rw')
 ·subst ey
  cases (show u=Value.ref b from ry)
  obtain ⟨z,hd,xs,rel,dd⟩:=xE I.hok e
  obtain ⟨w',hw,rw'⟩:=pK.some_of (v:=v) (o:=(atKey xs k).map (·.2)) (by rw [l]; exact rel.val k)
  obtain ⟨p,hp,hp2⟩:=Option.map_eq_some_iff.mp hw
  refine wpAny_getItem_heap (tupleKind_room_in1 hu) (qW I.hok eb) dd hp ?_
  rw [hp2]
  exact h w' _ (I.tok _) rw'
theorem aGn {Q:Value->Shared->Prop} (hu:A.units+1 < cLine) (I:Inv X pins σ H s) (g:oI H a y o) (ry:bI y u) (h:∀ s',Inv X pins σ H s'->Q (.bool o.isSome) s') :
  wpAny (model X.prog X.w) A (compareOp .In u (.ref a)) Q E s:=by
 rcases g with ⟨kvs,k,e,ey,l⟩ | ⟨kvs,k,b,e,ey,eb,l⟩
 ·subst ey
  obtain ⟨z,hd,vs,rel,dd⟩:=xD I.hok e
  refine wpAny_in_of (tR ry) hd dd.mapOf ?_
  rw [<- (rel.val k).isSome_eq,<- l]
  exact h _ (I.tok _)
 ·subst ey
  cases (show u=Value.ref b from ry)
  obtain ⟨z,hd,xs,rel,dd⟩:=xE I.hok e
  refine wpAny_in_heap (tupleKind_room_in1 hu) (qW I.hok eb) hd dd ?_
  have q:=(rel.val k).isSome_eq
  rw [Fi] at q
  rw [<- q,<- l]
  exact h _ (I.tok _)
theorem aDN {Q:Value->Shared->Prop} (hu:A.units+1 < cLine) (I:Inv X pins σ H s) (g:oI H a y o) (ry:bI y u) (h:∀ s',Inv X pins σ H s'->Q (.bool (!o.isSome)) s') :
  wpAny (model X.prog X.w) A (compareOp .NotIn u (.ref a)) Q E s:=by
 rcases g with ⟨kvs,k,e,ey,l⟩ | ⟨kvs,k,b,e,ey,eb,l⟩
 ·subst ey
  obtain ⟨z,hd,vs,rel,dd⟩:=xD I.hok e
  refine wpAny_notIn_of (tR ry) hd dd.mapOf ?_
  rw [<- (rel.val k).isSome_eq,<- l]
  exact h _ (I.tok _)
 ·subst ey
  cases (show u=Value.ref b from ry)
  obtain ⟨z,hd,xs,rel,dd⟩:=xE I.hok e
  refine wpAny_notIn_heap (tupleKind_room_in1 hu) (qW I.hok eb) hd dd ?_
  have q:=(rel.val k).isSome_eq
  rw [Fi] at q
  rw [<- q,<- l]
  exact h _ (I.tok _)
theorem uZ {h':Heap} {t':Nat} {ob:HO} (I:Inv X pins σ H s) (mu:Mut (H a)) (hs:Heap.SameBut a s.heap h') (he:∃ q,h'.get? a=some q) (new:bR X.prog X.w (upd H a ob) h' a ob) :
  Inv X pins σ (upd H a ob) { s with heap:=h',toks:=t' } :=
 I.write (x:=a) (e:=a) mu (.inl rfl) (fun b q hb z=>(hs.2 b hb).trans z) he new
theorem aCw {P:Program} {w:World} {H':Hp} {h':Heap} {kvs:List (Key×V)} {vs:List (Key×Value)} (z:kvs.length<=sizeLine) (hd:(a==sysModules)=false) (rel:KV kvs vs) (dd:h'.DictOf (cM P w) a vs) :
  bR P w H' h' a (.dK kvs):=⟨z,hd,vs,rel,dd⟩
theorem aBq {H':Hp} {Q:Unit->Shared->Prop} (hu:A.units+1 < cLine) (I:Inv X pins σ H s) (g:uY H a y v H') (ry:bI y u) (rv:bI v r) (h:∀ s',Inv X pins σ H' s'->Q () s') :
  wpAny (model X.prog X.w) A (setItem (.ref a) u r) Q E s:=by
 rcases g with ⟨kvs,k,e,ey,l,eH⟩ | ⟨kvs,k,b,e,ey,eb,l,eH⟩
 ·subst ey eH
  obtain ⟨z,hd,vs,rel,dd⟩:=aFN I.hok e
  have hz:vs.length<=sizeLine:=by rw [<- rel.length]; exact z
  have hl:(jD kvs k v).length<=sizeLine:=by have:=iQ kvs k v; omega
  refine wpAny_setItem_pairs (hsz:=hz) (tR ry) dd fun h' dd' hs=>h _ ?_
  have he:∃ q,h'.get? a=some q:=let ⟨q,_,_,hq,_⟩:=dd'; ⟨q,hq⟩
  exact uZ I (by rw [e]; exact True.intro) hs he (aCw hl hd (rel.put k rv) dd')
 ·subst ey eH
  cases (show u=Value.ref b from ry)
  obtain ⟨z,hd,xs,rel,dd⟩:=aFO I.hok e
  have hz:xs.length<=sizeLine:=by rw [<- Paired.length rel]; exact z
  have hl:(jD kvs k v).length<=sizeLine:=by have:=iQ kvs k v; omega
  refine wpAny_setItem_heap (hsz:=hz) (tupleKind_room_in1 hu) (qW I.hok eb) dd fun h' dd' hs=>h _ ?_
  obtain ⟨q,es,ep,hq,h2,h3,h4,_,h5⟩:=dd'
  refine uZ I (by rw [e]; exact True.intro) hs ⟨q,hq⟩ ⟨hl,hd,_,(rel.put k eb rv).keeps fun c ys ec=>?_,q,es,ep,hq,h2,h3,h4,h5⟩
  rw [aJ (aFk ec e (fun z=>nomatch z))]
  exact ec
end
section
variable {X:Cx} {pins:List (Addr×Obj)} {σ:St} {H:Hp} {s:Shared} {a:Addr} {kvs:List (Key×V)} {k:Key} {u:Value} {A:Around} {E:Value->Shared->Prop}
end
def aFP (i:Expr):Prop:=∀ ov iv,subscripted i false ov iv=operate [ov,iv] (getItem ov iv)
theorem aDO {prog:Program} {w:World} {A:Around} {E:Value->Shared->Prop} {s:Shared} {env:Env} {value slice:Expr} {pos:Pos} {T id:String} {Q:Value->Shared->Prop}
  (hl:typeLookup (.type T) "__getitem__" = pure (some (.builtin id))) (hs:aFP slice)
  (h:wpAny (model prog w) A (eval value env) (fun o s₁=>wpAny (model prog w) A (eval slice env) (fun i s₂=>s₂.TypeIs o T/\wpAny (model prog w) A (getItem o i) Q E s₂) E s₁) E s) :
  wpAny (model prog w) A (eval (.Subscript value slice pos) env) Q E s:=by
 refine Subscript_ (wpAny_mono h (fun o s₁ h₁=>wpAny_mono h₁ (fun i s₂ h₂=>?_) fun _ _ x=>x) fun _ _ x=>x)
 obtain ⟨hT,h₂⟩:=h₂
 unfold subscriptTail
 refine wpAny_bind ?_
 rw [getitemInPython_of_ne hT.not_modules]
 refine wpAny_bind (wpAny_specialOf hT hl ?_)
 have fin:wpAny (model prog w) A (subscripted slice false o i) (fun r s₃=>wpAny (model prog w) A (letTemporaryGo value o r >>= fun _=>pure r) Q E s₃) E s₂:=by
  rw [hs o i]
  exact wpAny_operating (wpAny_mono h₂ (fun r s₃ h₃=>wpAny_bind (wpAny_letTemporaryGo (wpAny_pure h₃))) fun _ _ x=>x)
 first
  | exact wpAny_pure (wpAny_bind fin)
  | exact wpAny_bind (wpAny_pure (wpAny_bind fin))
  | exact wpAny_bind fin
theorem xF {X:Cx} {pins:List (Addr×Obj)} {σ:St} {H:Hp} {s:Shared} {a:Addr} {y:V} {o:Option V} (I:Inv X pins σ H s) (g:oI H a y o):s.TypeIs (.ref a) "dict" := by
 rcases g with ⟨kvs,k,e,_,_⟩ | ⟨kvs,k,b,e,_,_,_⟩
 ·obtain ⟨_,_,vs,_,dd⟩:=xD I.hok e
  exact dd.typeIs
 ·obtain ⟨_,_,xs,_,dd⟩:=xE I.hok e
  exact dd.typeIs
def aFQ (td ty:TE):TE:=fun σ H Q=>td σ H fun x H1=>ty σ H1 fun y H2=>∃ a v,x=.ref a/\oI H2 a y (some v)/\Q v H2
def aGo (ty td:TE):TE:=fun σ H Q=>ty σ H fun y H1=>td σ H1 fun x H2=>∃ a o,x=.ref a/\oI H2 a y o/\Q (.bl o.isSome) H2
def aDP (ty td:TE):TE:=fun σ H Q=>ty σ H fun y H1=>td σ H1 fun x H2=>∃ a o,x=.ref a/\oI H2 a y o/\Q (.bl (!o.isSome)) H2
def aFR (td ty tv:TE):TS:=fun D σ H=>tv σ H fun v H1=>td σ H1 fun x H2=>ty σ H2 fun y H3=>∃ a H4,x=.ref a/\uY H3 a y v H4/\D.nx σ H4
section
variable {X:Cx} {o i e value:Expr} {pos pos' tpos:Pos} {td ty tv:TE}
theorem vA (hu:X.A.units+1 < cLine) (ho:PE X o td) (hi:PE X i ty) (hs:aFP i):PE X (.Subscript o i pos) (aFQ td ty):=by
 intro pins s σ H Q I h
 refine aDO PySem.F.slot_dict_getitem.lookup hs (thn (ho pins s σ H _ I h) fun u s1 ⟨x,H1,I1,rx,q1⟩=>thn (hi pins s1 σ H1 _ I1 q1) fun iv s2 hx9=>?_)
 obtain ⟨y,H2,I2,ry,a,v,ex,g,q2⟩:=hx9
 subst ex
 obtain rfl:u=Value.ref a:=rx
 exact ⟨xF I2 g,aBp hu I2 g ry fun w' s3 I3 rw'=>⟨v,H2,I3,rw',q2⟩⟩
theorem aEZ (hu:X.A.units+1 < cLine) (hi:PE X i ty) (ho:PE X o td):PC X .In i o (aGo ty td):=by
 intro pins s σ H Q I h
 refine thn (hi pins s σ H _ I h) fun iv s1 ⟨y,H1,I1,ry,q1⟩=>thn (ho pins s1 σ H1 _ I1 q1) fun u s2 hx9=>?_
 obtain ⟨x,H2,I2,rx,a,ov,ex,g,q2⟩:=hx9
 subst ex
 obtain rfl:u=Value.ref a:=rx
 exact aGn hu I2 g ry fun s3 I3=>⟨.bl ov.isSome,H2,I3,rfl,q2⟩
theorem aBr (hu:X.A.units+1 < cLine) (hi:PE X i ty) (ho:PE X o td):PC X .NotIn i o (aDP ty td):=by
 intro pins s σ H Q I h
 refine thn (hi pins s σ H _ I h) fun iv s1 ⟨y,H1,I1,ry,q1⟩=>thn (ho pins s1 σ H1 _ I1 q1) fun u s2 hx9=>?_
 obtain ⟨x,H2,I2,rx,a,ov,ex,g,q2⟩:=hx9
 subst ex
 obtain rfl:u=Value.ref a:=rx
 exact aDN hu I2 g ry fun s3 I3=>⟨.bl (!ov.isSome),H2,I3,rfl,q2⟩
theorem vB (hu:X.A.units+1 < cLine) (ho:PE X o td) (hi:PE X i ty) (hv:PE X value tv) (hs:swapsWith value (some (.Subscript o i pos')) pos.line X.env=pure false) :
  PS X (.Assign [.Subscript o i pos'] value pos) (aFR td ty tv):=by
 intro pins s σ H D I h
 refine wpAny_Assign_Subscript (thn (hv pins s σ H _ I h) fun r s1 ⟨v,H1,I1,rv,q1⟩=>thn (ho pins s1 σ H1 _ I1 q1) fun u s2 ⟨x,H2,I2,rx,q2⟩=>thn (hi pins s2 σ H2 _ I2 q2) fun iv s3 hx9=>?_) hs
 obtain ⟨y,H3,I3,ry,a,H4,ex,g,q3⟩:=hx9
 subst ex
 obtain rfl:u=Value.ref a:=rx
 exact aBq hu I3 g ry rv fun s4 I4=>⟨σ,H4,I4,q3⟩
end
theorem xG {P:Program} {w:World} {H:Hp} (h:Heap) (hb:sysModules < h.objs.size):bR P w H (h.push { cls:=.type "dict",data:=.dict #[] }) h.objs.size (.dK []) :=
 ⟨Bo _,beq_eq_false_iff_ne.mpr (Ne.symm (As hb)),[],.nil,Heap.DictOf.new h⟩
def aE0:TE:=fun _ H Q=>∀ p,H p=none->Q (.ref p) (upd H p (.dK []))
section
variable {X:Cx} {pos:Pos}
theorem xH:PE X (.Dict [] [] pos) aE0:=fun pins s σ H Q I h =>
 wpAny_Dict_empty ⟨.ref s.heap.objs.size,_,I.laid (a:=s.heap.objs.size) (o:=.dK []) (t':=s.toks) (fun _ _ q=>Aa _ q) (Ai _) (xG s.heap I.big),rfl,h _ (I.hok.fresh (Ai _))⟩
end
def NF (H0:Hp) (a:Addr):Prop:=∀ o u,H0 a≠some (.frz o u)
section
variable {X:Cx} {pins:List (Addr×Obj)} {σ:St} {H:Hp} {s:Shared} {a:Addr}
theorem Inv.freeze {kvs:List (Key×V)} {o:Obj} (I:Inv X pins σ H s) (e:H a=some (.dK kvs)) (ho:s.heap.get? a=some o):Inv X pins σ (upd H a (.frz o (.dK kvs))) s:=by
 have m:Mut (H a):=by rw [e]; trivial
 have q:bR X.prog X.w H s.heap a (.dK kvs):=I.hok a _ e
 exact I.write (x:=a) (e:=a) (t':=s.toks) m (.inl rfl) (fun b u _ z=>z) ⟨o,ho⟩ ⟨ho,q⟩
theorem Inv.nf {kvs:List (Key×V)} (I:Inv X pins σ H s) (e:H a=some (.dK kvs)):NF X.H₀ a:=fun o u z=>by
 have:=I.base.frzs a o u z
 rw [e] at this; cases this
theorem Inv.thaw {kvs:List (Key×V)} {o:Obj} (I:Inv X pins σ H s) (e:H a=some (.frz o (.dK kvs))) (nf:NF X.H₀ a):Inv X pins σ (upd H a (.dK kvs)) s:=by
 have ne:∀ b,H b=none->b≠a:=fun b n z=>by rw [z,e] at n; cases n
 have nt:∀ b xs,H b=some (.tup xs)->b≠a:=fun b xs n z=>by rw [z,e] at n; cases n
 have no:∀ b x,H b=some (.own x)->b≠a:=fun b xs n z=>by rw [z,e] at n; cases n
 obtain ⟨ho,q⟩:s.heap.get? a=some o/\bR X.prog X.w H s.heap a (.dK kvs):=I.hok a _ e
 have un:Un X.fs X.ex X.H₀ (upd H a (.dK kvs)) X.s₀.heap s.heap:=by
  refine ⟨I.base.keep,I.base.slot,fun b ob q n hx=>?_,I.base.there,fun b xs q=>?_,fun b ob u q=>?_,fun b ps q=>?_⟩
  ·have z:=I.base.free b ob q n hx
   rw [aJ (ne b z)]; exact z
  ·have z:=I.base.tups b xs q
   rw [aJ (nt b xs z)]; exact z
  ·have z:=I.base.frzs b ob u q
   have n:b≠a:=fun y=>nf ob u (y ▸ q)
   rw [aJ n]; exact z
  ·obtain ⟨m,z⟩:=I.base.tbls b ps q
   have n:b≠a:=fun y=>by rw [y,e] at z; cases z
   exact ⟨m,by rw [aJ n]; exact z⟩
 refine ⟨I.ok,I.os,I.bare,un,I.loc,I.cell,?_,fun x c h=>?_,fun p hp=>?_,fun b u h=>?_,I.len⟩
 ·rw [aJ (ne _ I.free)]; exact I.free
 ·have z:=I.freeC x c h
  rw [aJ (ne _ z)]; exact z
 ·obtain ⟨p1,p2,p3⟩:=I.pin p hp
  exact ⟨p1,by rw [aJ (ne _ p2)]; exact p2,p3⟩
 ·by_cases hb:b=a
  ·subst hb
   rw [aB] at h
   cases h
   exact bR.stay q (fun _ _ _ z=>z) (fun c z=>by rw [aJ (no c _ z)]; exact z) (fun c xs z=>by rw [aJ (nt c xs z)]; exact z)
  ·rw [aJ hb] at h
   exact bR.stay (I.hok b u h) (fun _ _ _ z=>z) (fun c z=>by rw [aJ (no c _ z)]; exact z) (fun c xs z=>by rw [aJ (nt c xs z)]; exact z)
end
def Itd (a:Addr) (o:Obj) (kvs:List (Key×V)):It :=
 ⟨fun i H=>H a=some (.frz o (.dK kvs))/\i < kvs.length,fun i H x H'=>H'=H/\∃ p,kvs[i]?=some p/\x=kV p.1,fun i H=>H a=some (.frz o (.dK kvs))/\i=kvs.length⟩
theorem xI {P:Program} {w:World} {k:Key} {u:Value} (h:(cM P w).is k u=true):bI (kV k) u:=by
 rcases cO h with ⟨i,t,rfl,rfl⟩ | ⟨x,t,rfl,rfl⟩
 ·exact ⟨t,rfl⟩
 ·exact ⟨t,rfl⟩
theorem oJ {P:Program} {w:World} {h:Heap} {a:Addr} {o:Obj} {es:Array DictEntry} {ep:Nat} {vs:List (Key×Value)} (ho:h.get? a=some o) (hd:o.data=.dict es ep) (d:h.DictOf (cM P w) a vs):h.DictAt (cM P w) a vs ep:=by
 obtain ⟨o',es',ep',q1,q2,q3,r⟩:=d
 rw [ho] at q1; cases q1
 rw [hd] at q3; cases q3
 exact ⟨o,es,ho,q2,hd,r⟩
theorem aBs {P:Program} {w:World} {K:PySem.W.Frag} {tg:Expr} (a it:Addr) (o:Obj) (es:Array DictEntry) (ep:Nat) (hd:o.data=.dict es ep) (kvs:List (Key×V)) :
  Turn P w K tg (Itd a o kvs) [it] it (fun i h=>h.IsKeyIter it a i kvs.length ep) where
 mem:=by simp
 obj:=fun i h st b hb=>by
  have e:b=it:=by simpa using hb
  subst e
  obtain ⟨o,e,c,d⟩:=st
  exact ⟨o,e,fun v z=>by rw [d] at z; cases z⟩
 keep:=fun i h h' st k=>st.at fun o e=>k it (by simp) o e
 item:=by
  intro X hP hw hK hc i pins s σ H E I hf st hg
  subst hP hw hK
  obtain ⟨hA,hi⟩:=hg
  obtain ⟨ho,hz,hs,vs,kv,dd⟩:s.heap.get? a=some o/\bR X.prog X.w H s.heap a (.dK kvs):=I.hok a _ hA
  have da:=oJ ho hd dd
  have hl:kvs.length=vs.length:=kv.length
  obtain ⟨f0,f1,f2,f3,f4,f5⟩:=hf it (by simp)
  obtain ⟨⟨k,x⟩,hx⟩:∃ p,vs[i]?=some p:=⟨vs[i]'(by omega),by simp⟩
  rw [hl] at st
  refine wpAny_pyNext_dict_item st da hx fun key h' hkey st' sb=>?_
  have I1:Inv X pins σ H { s with heap:=h' }:=I.turned (t':=s.toks) (fun b o hb e=>(sb.2 b hb).trans e) f0 f1 f3 f4 f5
  obtain ⟨o',e',c',d'⟩:=id st'
  have hk:kvs[i]?=some (kvs[i]):=Ae hi
  have hkk:(kvs[i]).1=k:=by
   have e:=kv.keys
   have e1:(kvs.map (·.1))[i]?=some (kvs[i]).1:=by rw [Af,hk]; rfl
   have e2:(vs.map (·.1))[i]?=some k:=by rw [Af,hx]; rfl
   rw [e,e2] at e1
   exact (Option.some.inj e1).symm
  rw [<- hl] at st'
  exact ⟨key,rfl,aAp (s:={ s with heap:=h' }) e' c' d' (by decide) ⟨kV k,H,I1,xI hkey,⟨rfl,_,hk,by rw [hkk]⟩,st',fun b hb=>(hf b hb).1⟩⟩
 done:=by
  intro X hP hw hK hc i pins s σ H E I hf st hg
  subst hP hw hK
  obtain ⟨hA,hi⟩:=hg
  obtain ⟨ho,hz,hs,vs,kv,dd⟩:s.heap.get? a=some o/\bR X.prog X.w H s.heap a (.dK kvs):=I.hok a _ hA
  have da:=oJ ho hd dd
  have hl:kvs.length=vs.length:=kv.length
  obtain ⟨f0,f1,f2,f3,f4,f5⟩:=hf it (by simp)
  rw [hl] at st
  exact wpAny_pyNext_dict_end (I.ok.hd hc) st da (by simp; omega) fun h' eb=>⟨rfl,I.turned (t':=s.toks) (fun b o hb e=>eb b o hb e) f0 f1 f3 f4 f5⟩
 self:=fun _ _ _ _ _ st h=>wpAny_pyIter_keyiter st h
section
variable {X:Cx} {tg:Expr}
def aFS (H0:Hp) (td:TE):TI:=fun σ H R=>td σ H fun x H1=>∃ a kvs,x=.ref a/\H1 a=some (.dK kvs)/\∀ o,NF H0 a->R (Itd a o kvs) (upd H1 a (.frz o (.dK kvs)))
theorem aAz {d:Expr} {td:TE} (hl:PE X d td):PI X tg d (aFS X.H₀ td):=by
 intro pins s σ H R I h
 refine thn (hl pins s σ H _ I h) fun v s1 hx9=>?_
 obtain ⟨x,H1,I1,r1,q1⟩:=hx9
 obtain ⟨a,kvs,e,hq,q⟩:=q1
 subst e
 cases r1
 obtain ⟨hz,hs,vs,kv,dd⟩:bR X.prog X.w H1 s1.heap a (.dK kvs):=I1.hok a _ hq
 obtain ⟨o,es,ep,ho,oe,hd,r⟩:=id dd
 have da:=oJ ho hd dd
 refine wpAny_pyIter_dict hs da ?_
 have I2:=(I1.freeze hq ho).kept (h':=s1.heap.push { cls:=.type "dict_keyiterator",data:=.fields #[.ref a,.int 0 0,.int vs.length 0,.int ep 0] }) (t':=s1.toks) fun b o e=>Aa _ e
 have nA:a≠s1.heap.objs.size:=As (Ak ho)
 refine ⟨s1.heap.objs.size,[s1.heap.objs.size],_,_,_,rfl,I2,aBs a _ o es ep hd kvs,?_,fun b hb=>?_,q o (I1.nf hq)⟩
 ·refine ⟨_,Ag _ rfl,rfl,?_⟩
  rw [kv.length]; rfl
 ·have e:b=s1.heap.objs.size:=by simpa using hb
  subst e
  exact I1.fpOk (Ai _) (by rw [aJ (Ne.symm nA)]; exact I1.hok.fresh (Ai _))
def aFT (H0:Hp) (t:TS):TS:=fun D σ H=>t { D with nx:=fun σ' H'=>∃ a o kvs,H' a=some (.frz o (.dK kvs))/\NF H0 a/\D.nx σ' (upd H' a (.dK kvs)) } σ H
theorem aAA {st:Stmt} {t:TS} (h:PS X st t):PS X st (aFT X.H₀ t):=by
 intro pins s σ H D I q
 refine thn (h pins s σ H _ I q) fun f s1 z=>?_
 cases f with
 | next =>
  obtain ⟨σ',H',I',a,o,kvs,e,nf,k⟩:=z
  exact ⟨σ',_,I'.thaw e nf,k⟩
 | brk=>exact z
 | cont=>exact z
 | ret u=>exact z
end
theorem aCx {a:Addr} {o:Obj} {kvs:List (Key×V)} {g:TG} {tb:TS} {D:Ends} {σ:St} {H:Hp} (Pv:Nat->St->Hp->Prop) (h0:Pv 0 σ H) (hl:∀ i σ H,i<=kvs.length->Pv i σ H->H a=some (.frz o (.dK kvs)))
  (hs:∀ i p σ H,kvs[i]?=some p->Pv i σ H->g (kV p.1) σ H fun σ2 H2=>tb { D with nx:=Pv (i+1),ct:=Pv (i+1),bk:=D.nx } σ2 H2) (hd:∀ σ H,Pv kvs.length σ H->D.nx σ H) :
  ∃ W:Nat->Nat->St->Hp->Prop,(∃ m,W 0 m σ H)/\∀ i m σ H,W i m σ H ->
   ((Itd a o kvs).stop i H/\D.nx σ H)∨((Itd a o kvs).go i H/\∃ N:St->Hp->Prop,(∀ σ' H',N σ' H'->∃ m',m' < m/\W (i+1) m' σ' H')/\∀ x H',(Itd a o kvs).yld i H x H'->g x σ H' fun σ2 H2=>tb { D with nx:=N,ct:=N,bk:=D.nx } σ2 H2):=by
 refine ⟨fun i m σ H=>m=kvs.length - i/\i<=kvs.length/\Pv i σ H,⟨kvs.length,by simp,Bo _,h0⟩,?_⟩
 rintro i m σ H ⟨rfl,hi,p⟩
 have q:=hl i σ H hi p
 by_cases hlt:i < kvs.length
 ·refine .inr ⟨⟨q,hlt⟩,Pv (i+1),fun σ' H' p'=>⟨kvs.length - (i+1),by omega,rfl,hlt,p'⟩,fun x H' y=>?_⟩
  obtain ⟨rfl,v,hv,rfl⟩:=y
  exact hs i v σ H' hv p
 ·have e:i=kvs.length:=by omega
  subst e
  exact .inl ⟨⟨q,rfl⟩,hd σ H p⟩
def aE1 (tk tv:TE):TE:=fun σ H Q=>∀ p,H p=none->tk σ (upd H p (.dK [])) fun x H1=>tv σ H1 fun y H2=>∃ k,x=kV k/\H2 p=some (.dK [])/\Q (.ref p) (upd H2 p (.dK [(k,y)]))
section
variable {X:Cx} {pos:Pos} {ek ev:Expr} {tk tv:TE}
theorem aCy (hk:PE X ek tk) (hv:PE X ev tv) (he:evalEachOpt [some ek] X.env = [some (eval ek X.env)]:=by rfl) (he2:evalEach [ev] X.env = [eval ev X.env]:=by rfl):PE X (.Dict [some ek] [ev] pos) (aE1 tk tv):=by
 intro pins s σ H Q I h
 have I0:Inv X pins σ (upd H s.heap.objs.size (.dK [])) { s with heap:=s.heap.push { cls:=.type "dict",data:=.dict #[] } }:=I.laid (a:=s.heap.objs.size) (o:=.dK []) (t':=s.toks) (fun _ _ q=>Aa _ q) (Ai _) (xG s.heap I.big)
 have h0:=h s.heap.objs.size (I.hok.fresh (Ai _))
 refine wpAny_Dict_pairs (knd:=cM X.prog X.w) (pairs:=[(eval ek X.env,do let x<-eval ev X.env; standAt pos; pure x)]) (by rw [he,he2]; rfl) (by simp) (by simp) ?_
 refine evalPairs_cons (thn (hk pins _ σ _ _ I0 h0) fun kv s1 hx9=>?_)
 obtain ⟨x,H1,I1,r1,q1⟩:=hx9
 refine wpAny_bind (thn (hv pins _ σ _ _ I1 q1) fun vv s2 hx9=>?_)
 obtain ⟨y,H2,I2,r2,q2⟩:=hx9
 refine wpAny_bind (wpAny_standAt (wpAny_pure (evalPairs_nil ?_)))
 obtain ⟨k,rfl,hp,q⟩:=q2
 obtain ⟨hz,hs,vs,kv',dd⟩:bR X.prog X.w H2 s2.heap s.heap.objs.size (.dK []):=I2.hok _ _ hp
 have ev0:vs = []:=by
  have:=kv'.length
  exact Cq.mp this.symm
 subst ev0
 refine ⟨[(k,vv)],⟨tR r1,rfl,trivial⟩,dd,fun h' dd' sb=>?_⟩
 have em:merged ([]:List (Key×Value)) [(k,vv)] = [(k,vv)]:=by simp [merged,stored]
 rw [em] at dd'
 obtain ⟨o',es',ep',ho',_⟩:=id dd'
 have mu:Mut (H2 s.heap.objs.size):=by rw [hp]; trivial
 refine ⟨.ref s.heap.objs.size,_,uZ (t':=s2.toks+1) I2 mu sb ⟨_,ho'⟩ (aCw (kvs:=[(k,y)]) (by simp [sizeLine_eq]) hs (.cons ⟨rfl,r2⟩ .nil) dd'),rfl,q⟩
end
section
variable {prog:Program} {w:World} {A:Around} {E:Value->Shared->Prop} {s:Shared}
def iY (h:Heap) (u:Value) (i:Int) (v:Value):Prop:=∃ p,u=.ref p/\((∃ its:Array Value,h.IsTuple p its/\0<=i/\i < 1000/\its[i.toNat]?=some v)∨∃ its:Array Value,h.IsList p its/\0<=i/\i < 1000/\its[i.toNat]?=some v)
theorem iY.keeps {h h':Heap} {u:Value} {i:Int} {v:Value} (x:iY h u i v) (k:∀ b o,h.get? b=some o->h'.get? b=some o):iY h' u i v:=by
 obtain ⟨p,rfl,⟨its,⟨o,ho,r⟩,q⟩ | ⟨its,⟨o,ho,r⟩,q⟩⟩:=x
 ·exact ⟨p,rfl,.inl ⟨its,⟨o,k _ _ ho,r⟩,q⟩⟩
 ·exact ⟨p,rfl,.inr ⟨its,⟨o,k _ _ ho,r⟩,q⟩⟩
theorem nK {i:Int} {n:Nat} (h0:0<=i) (h1:i.toNat < n):seqIndex? i n=some i.toNat:=by
 unfold seqIndex?
 have e:¬ (i < 0):=by omega
 simp only [e,if_false]
 have e2:(decide (0<=i) && decide (i < (n:Int)))=true:=by simp; omega
 rw [if_pos e2]
theorem aDQ {env:Env} {vn xn:Str} {p1 p2 p3:Pos} {m:Str->Option Value} {c:Addr} {u v:Value} {i:Int} {t:Tok} {Q:Value->Shared->Prop} (hk:env.scope.kind=.function) (hv:env.kindOf vn=some .free) (hx:env.kindOf xn=some .local)
  (hc:env.cells.lookup vn=some c) (hC:s.heap.IsCell c (some u)) (hn:s.heap.Ns env.locals m) (hm:m xn=some (.int i t)) (hI:iY s.heap u i v) (h:Q v s)
  (d1:(vn==("__debug__" : Str))=false) (d2:(vn==("__classdict__" : Str))=false) (d3:(xn==("__debug__" : Str))=false) :
  wpAny (model prog w) A (eval (.Subscript (.Name vn p1) (.Name xn p2) p3) env) Q E s:=by
 refine Subscript_ (wpAny_Name (wpAny_loadName_free hk hv hc hC ?_ d2) d1)
 refine wpAny_Name (wpAny_loadName_local hk hx hn hm ?_) d3
 obtain ⟨p,rfl,⟨its,hp,i0,i1,e⟩ | ⟨its,hp,i0,i1,e⟩⟩:=hI
 ·have hlt:i.toNat < its.size:=(Array.getElem?_eq_some_iff.mp e).1
  exact subscriptTail_builtinR (x:=v) hp.typeIs slot_tuple_getitem.lookup
   (getItem_tuple (j:=i.toNat) (Q:=fun r s'=>r=v/\Q r s') hp (by omega) (by omega) (nK i0 hlt) e ⟨rfl,h⟩)
 ·have hlt:i.toNat < its.size:=(Array.getElem?_eq_some_iff.mp e).1
  exact subscriptTail_builtinR (x:=v) hp.typeIs slot_list_getitem.lookup
   (wpAny_getItem_list (Q:=fun r s'=>r=v/\Q r s') hp (by omega) (by omega) e ⟨rfl,h⟩)
theorem aCz {f c c':Addr} {q nm vn xn:Str} {params:Arguments} {scope:Scope} {cl:List (Str×Addr)} {pm ctv u v:Value} {p1 p2 p3:Pos} {i:Int} {t:Tok} {Q:Value->Shared->Prop} (hroom:A.depth < recursionLimit) (hlim:s.heap.NoLimit)
  (hf:s.heap.get? f=some { cls:=.type "function",data:=.func (PySem.W.kla_fn nm q params (.Subscript (.Name vn p1) (.Name xn p2) p3) scope cl pm (.ref c') ctv) }) (hcd:s.heap.CodeRec (.ref c') q)
  (hbind:bindArgs (PySem.W.kla_fn nm q params (.Subscript (.Name vn p1) (.Name xn p2) p3) scope cl pm (.ref c') ctv) ⟨[.int i t],[]⟩=pure [(xn,.int i t)])
  (hx:scope.names.lookup xn=some .local) (hv:scope.names.lookup vn=some .free) (hco:scope.isCoroutine=false) (hgen:scope.isGenerator=false) (hk:scope.kind=.function) (hcell:∀ x∈scope.names,x.2≠.cell)
  (hc:cl.lookup vn=some c) (hC:s.heap.IsCell c (some u)) (hI:iY s.heap u i v) (h:∀ h' tk,(∀ b o,s.heap.get? b=some o->h'.get? b=some o)->Q v { s with heap:=h',toks:=tk })
  (d1:(vn==("__debug__" : Str))=false) (d2:(vn==("__classdict__" : Str))=false) (d3:(xn==("__debug__" : Str))=false) :
  wpAny (model prog w) A (call (.ref f) [.int i t]) Q E s:=by
 refine wpAny_call (PySem.W.kla_callFunE hroom hf rfl hco hgen rfl hcd ?_)
 rw [hbind]
 refine wpAny_pure (wpAny_newFunctionEnv hcell (fun y hy=>by rw [An.mp hy]; exact hx) (fun h₁ hns hsb=>⟨hlim.fresh _ hsb,?_⟩) hk)
 have hk₁:∀ b o,s.heap.get? b=some o->h₁.get? b=some o:=fun b o e=>hsb.extBut b o (As (Ak e)) (Aa _ e)
 obtain ⟨oc,hoc,hdc⟩:=hC
 refine PySem.W.kla_codeExpr (aDQ (env:=newEnv scope s.heap.objs.size mainGlobals cl (q ++ ".<locals>.") (some f) (.ref c') none builtinsNs) (m:=fun x=>[(xn,Value.int i t)].reverse.lookup x) (t:=t) hk hv hx hc ⟨oc,hk₁ _ _ hoc,hdc⟩ hns ?_ (hI.keeps hk₁) (h h₁ _ hk₁) d1 d2 d3)
 simp [List.lookup]
section
variable {R:Result->Shared->Prop} {I:Addr} {fp wr:List Addr} {n:Nat} {Pv:Nat->Value->Prop} {St:Nat->Heap->Prop} {f:Addr} {kf:Nat->Int} {L:List (Addr×Obj)}
def aCA (prog:Program) (w:World) (A:Around) (f:Addr) (L:List (Addr×Obj)) (n:Nat) (Pv:Nat->Value->Prop) (kf:Nat->Int):Prop :=
 ∀ i v (s:Shared) (Q:Value->Shared->Prop) (E:Value->Shared->Prop),i < n->Pv i v->(∀ p∈L,s.heap.get? p.1=some p.2) ->
  (∀ h' tk t,(∀ b o,s.heap.get? b=some o->h'.get? b=some o)->Q (.int (kf i) t) { s with heap:=h',toks:=tk })->wpAny (model prog w) A (call (.ref f) [v]) Q E s
abbrev btK (kf:Nat->Int):Nat->Nat->Bool:=fun i j=>decide (kf i < kf j)
theorem vC (W:Walks prog w A.in1 I fp wr n Pv St) (hkey:aCA prog w A.in1 f L n Pv kf) (S:Addr) (hSf:S∉fp) (hL:∀ p∈L,p.1∉wr/\p.1≠S) :
  ∀ (k j:Nat) (s:Shared) (vb:Value) (t:Tok) (c:Nat),n - (j+1)=k->j+1<=n->St (j+1) s.heap->Pv (argBest (btK kf) j) vb ->
  s.heap.get? S=some { cls:=.type "list",dict:=none,data:=.seq #[vb,.int (kf (argBest (btK kf) j)) t] c,slots:=#[] }->(∀ p∈L,s.heap.get? p.1=some p.2) ->
  (∀ v h' tk,Pv (argBest (btK kf) (n - 1)) v->(∀ b o,b∉wr->b≠S->s.heap.get? b=some o->h'.get? b=some o)->R (.ok (.ret v)) { s with heap:=h',toks:=tk }) ->
  codeAny (model prog w) A (.builtin "min.loop" ⟨[.ref I,.ref f,.ref S],[]⟩) R s:=by
 have hSw:S∉wr:=fun h=>hSf (W.sub _ h)
 have hname:(toString "min" ++ toString ".loop" : String) = "min.loop" := by decide
 intro k
 induction k with
 | zero =>
  intro j s vb t c hk hj hst hPb hS hLs hR
  have hin:j+1=n:=by omega
  refine codeAny_builtin F.entry_min_loop ?_
  rw [Around.under_plainId F.plain_min_loop _]
  show wpAny _ A.in1 (seqItems? (.ref S) >>= _) _ _ s
  refine wpAny_bind (wpAny_seqItems hS rfl ?_)
  show wpAny _ A.in1 (tryCatch (pyNext (.ref I)) _ >>= _) _ _ s
  refine wpAny_bind (wpAny_tryCatch (W.done s _ _ (hin ▸ hst) fun h' tk kk=>?_))
  have hS':=kk S _ hSw hS
  show wpAny _ A.in1 (updateSeq S (fun _=>#[]) >>= _) _ _ _
  refine wpAny_bind ?_
  refine wpAny_updateSeq hS' rfl (wpAny_bind (wpAny_letGo (wpAny_pure ?_)))
  exact hR vb _ _ (by rw [<- hin]; exact hPb) fun b o hb hbS e=>(Aw _ _ (Ne.symm hbS)).trans (kk b o hb e)
 | succ k ih =>
  intro j s vb t c hk hj hst hPb hS hLs hR
  have hlt:j+1 < n:=by omega
  refine codeAny_builtin F.entry_min_loop ?_
  rw [Around.under_plainId F.plain_min_loop _]
  show wpAny _ A.in1 (seqItems? (.ref S) >>= _) _ _ s
  refine wpAny_bind (wpAny_seqItems hS rfl ?_)
  show wpAny _ A.in1 (tryCatch (pyNext (.ref I)) _ >>= _) _ _ s
  refine wpAny_bind (wpAny_tryCatch (W.item (j+1) s _ _ hlt hst fun v h1 tk1 hP hst1 kk1=>?_))
  have hS1:=kk1 S _ hSw hS
  show wpAny _ A.in1 (tryCatch (holding [v] (call (.ref f) [v])) _ >>= _) _ _ _
  refine wpAny_bind (wpAny_tryCatch (wpAny_holding (hkey (j+1) v _ _ _ hlt hP (fun p hp=>kk1 _ _ (hL p hp).1 (hLs p hp)) fun h2 tk2 t2 kk2=>?_)))
  have hS2:=kk2 S _ hS1
  have hst2:St (j+1+1) h2:=W.frame _ _ _ hst1 fun b _ o e=>kk2 b o e
  show wpAny _ A.in1 (tryCatch (holding [v,.int (kf (j+1)) t2] (richCompare .Lt (.int (kf (j+1)) t2) (.int (kf (argBest (btK kf) j)) t) >>= _)) _ >>= _) _ _ _
  have hcmp:CmpOf prog w A.in1 .Lt (fun i u=>∃ t,u=.int (kf i) t) (btK kf):=CmpOf.ints_lt kf fun i v h=>h
  refine wpAny_bind (wpAny_tryCatch (wpAny_holding (wpAny_bind (hcmp (j+1) (argBest (btK kf) j) _ _ _ _ _ ⟨_,rfl⟩ ⟨_,rfl⟩ ?_))))
  refine wpAny_bind (wpAny_holding (wpAny_truthy_bool ?_))
  refine wpAny_bind (wpAny_letGo (wpAny_pure ?_))
  have kk:∀ b o,b∉wr->s.heap.get? b=some o->h2.get? b=some o:=fun b o hb e=>kk2 b o (kk1 b o hb e)
  cases hb:btK kf (j+1) (argBest (btK kf) j) with
  | true =>
   simp only [if_true]
   refine wpAny_bind ?_
   refine wpAny_updateSeq hS2 rfl (wpAny_bind (wpAny_letGo ?_))
   rw [hname]
   have eb:argBest (btK kf) (j+1)=j+1:=by simp only [argBest,hb,if_true]
   refine wpAny_pure ⟨plainId_quiet F.plain_min_loop _,ih (j+1) _ v t2 _ (by omega) hlt (W.frame _ _ _ hst2 fun b hbf o e=>?_) (by rw [eb]; exact hP) (by rw [eb]; exact Bs _ hS2 rfl) (fun p hp=>?_) fun v' h' tk hP' kk'=>?_⟩
   ·exact (Aw _ _ (fun h:S=b=>hSf (by rw [h]; exact hbf))).trans e
   ·exact (Aw _ _ (Ne.symm (hL p hp).2)).trans (kk _ _ (hL p hp).1 (hLs p hp))
   ·exact hR v' h' tk hP' fun b o hb hbS e=>kk' b o hb hbS ((Aw _ _ (Ne.symm hbS)).trans (kk b o hb e))
  | false =>
   simp only [Be,if_false]
   refine wpAny_bind (wpAny_letGo ?_)
   rw [hname]
   have eb:argBest (btK kf) (j+1)=argBest (btK kf) j:=by simp only [argBest,hb,Be,if_false]
   refine wpAny_pure ⟨plainId_quiet F.plain_min_loop _,ih (j+1) _ vb t c (by omega) hlt hst2 (by rw [eb]; exact hPb) (by rw [eb]; exact hS2) (fun p hp=>kk _ _ (hL p hp).1 (hLs p hp)) fun v' h' tk hP' kk'=>?_⟩
   exact hR v' h' tk hP' fun b o hb hbS e=>kk' b o hb hbS (kk b o hb e)
theorem sX (W:Walks prog w A.in1 I fp wr n Pv St) (hkey:aCA prog w A.in1 f L n Pv kf) (S:Addr) (hSf:S∉fp) (hL:∀ p∈L,p.1∉wr/\p.1≠S) (hn:0 < n) {s:Shared} {c:Nat} (hst:St 0 s.heap)
  (hS:s.heap.get? S=some { cls:=.type "list",dict:=none,data:=.seq #[] c,slots:=#[] }) (hLs:∀ p∈L,s.heap.get? p.1=some p.2)
  (hR:∀ v h' tk,Pv (argBest (btK kf) (n - 1)) v->(∀ b o,b∉wr->b≠S->s.heap.get? b=some o->h'.get? b=some o)->R (.ok (.ret v)) { s with heap:=h',toks:=tk }) :
  codeAny (model prog w) A (.builtin "min.loop" ⟨[.ref I,.ref f,.ref S],[]⟩) R s:=by
 have hSw:S∉wr:=fun h=>hSf (W.sub _ h)
 have hname:(toString "min" ++ toString ".loop" : String) = "min.loop" := by decide
 refine codeAny_builtin F.entry_min_loop ?_
 rw [Around.under_plainId F.plain_min_loop _]
 show wpAny _ A.in1 (seqItems? (.ref S) >>= _) _ _ s
 refine wpAny_bind (wpAny_seqItems hS rfl ?_)
 show wpAny _ A.in1 (tryCatch (pyNext (.ref I)) _ >>= _) _ _ s
 refine wpAny_bind (wpAny_tryCatch (W.item 0 s _ _ hn hst fun v h1 tk1 hP hst1 kk1=>?_))
 have hS1:=kk1 S _ hSw hS
 show wpAny _ A.in1 (tryCatch (holding [v] (call (.ref f) [v])) _ >>= _) _ _ _
 refine wpAny_bind (wpAny_tryCatch (wpAny_holding (hkey 0 v _ _ _ hn hP (fun p hp=>kk1 _ _ (hL p hp).1 (hLs p hp)) fun h2 tk2 t2 kk2=>?_)))
 have hS2:=kk2 S _ hS1
 have hst2:St (0+1) h2:=W.frame _ _ _ hst1 fun b _ o e=>kk2 b o e
 show wpAny _ A.in1 (updateSeq S (fun _=>#[v,.int (kf 0) t2]) >>= _) _ _ _
 refine wpAny_bind ?_
 refine wpAny_updateSeq hS2 rfl ?_
 rw [hname]
 have kk:∀ b o,b∉wr->s.heap.get? b=some o->h2.get? b=some o:=fun b o hb e=>kk2 b o (kk1 b o hb e)
 refine wpAny_pure ⟨plainId_quiet F.plain_min_loop _,vC W hkey S hSf hL _ 0 _ v t2 _ rfl hn (W.frame _ _ _ hst2 fun b hbf o e=>?_) hP (Bs _ hS2 rfl) (fun p hp=>?_) fun v' h' tk hP' kk'=>?_⟩
 ·exact (Aw _ _ (fun h:S=b=>hSf (by rw [h]; exact hbf))).trans e
 ·exact (Aw _ _ (Ne.symm (hL p hp).2)).trans (kk _ _ (hL p hp).1 (hLs p hp))
 ·exact hR v' h' tk hP' fun b o hb hbS e=>kk' b o hb hbS ((Aw _ _ (Ne.symm hbS)).trans (kk b o hb e))
theorem vD (a k:Value):argsOk "min" ⟨[a],[(Str.ofString "key",k)]⟩:=by unfold argsOk; kernel_rfl
theorem vE {id:String} {b:Builtin} {args:List Value} {kw:List (Str×Value)} {Q:Value->Shared->Prop} (hk:builtinKind id=none) (hp:plainId id=true)
  (hb:entryFor table id=some b) (ha:argsOk id ⟨args,kw⟩)
  (hc:wpAny (model prog w) A.in1 (b ⟨args,kw⟩) (fun fin s'=>match fin with
   | .done f=>(match (Except.ok f:Result) with | .ok (.ret v)=>Q v s' | .ok _=>False | .error e=>E e s')
   | .again c'=>c'.quiet=true/\codeAny (model prog w) A c' (fun r s'=>match r with | .ok (.ret v)=>Q v s' | .ok _=>False | .error e=>E e s') s') E s) :
  wpAny (model prog w) A (call (.builtin id) args kw) Q E s:=by
 refine wpAny_call (codeAny_call_builtin hp hb ?_)
 simp only [checkBuiltinCall,hk]
 cases hsig:Manifest.signature? id with
 | none=>exact wpAny_pure hc
 | some sig =>
  simp only [argsOk,hsig] at ha
  have h2:Bind.checkArgs id sig ⟨args,kw⟩=pure ():=ha
  show wpAny _ A.in1 (Bind.checkArgs id sig ⟨args,kw⟩) _ _ s
  rw [h2]; exact wpAny_pure hc
theorem vF {x:Value} {Q:Value->Shared->Prop}
  (h:wpAny (model prog w) A.in1 (pyIter x) (fun it s₂=>∃ I fp wr n Pv St kf L,it=.ref I/\Walks prog w A.in1 I fp wr n Pv St/\St 0 s₂.heap/\(∀ b∈fp,b < s₂.heap.objs.size)/\0 < n/\aCA prog w A.in1 f L n Pv kf /\
   (∀ p∈L,p.1∉wr)/\(∀ p∈L,s₂.heap.get? p.1=some p.2) /\
   ∀ v h' tk,Pv (argBest (btK kf) (n - 1)) v->(∀ b o,b∉wr->s₂.heap.get? b=some o->h'.get? b=some o)->Q v { s₂ with heap:=h',toks:=tk }) E s) :
  wpAny (model prog w) A (call (.builtin "min") [x] [(Str.ofString "key",.ref f)]) Q E s:=by
 have hname:(toString "min" ++ toString ".loop" : String) = "min.loop" := by decide
 refine vE F.kind_min F.plain_min F.entry_min (vD _ _) ?_
 show wpAny _ A.in1 (Builtin.Builtins.bindParams "min" ["key", "default"] 0 ⟨[],[(Str.ofString "key",.ref f)]⟩ >>= _) _ _ s
 refine wpAny_bind (wpAny_of_eq (show Builtin.Builtins.bindParams "min" ["key", "default"] 0 ⟨[],[(Str.ofString "key",.ref f)]⟩=pure [some (.ref f),none] from rfl) ?_)
 refine wpAny_bind (wpAny_pure ?_)
 refine wpAny_bind (wpAny_mono h (fun it s₂ h₂=>?_) fun _ _ e=>e)
 obtain ⟨I,fp,wr,n,Pv,St,kf,L,rfl,W,hst,hfp,hn,hkey,hLw,hLs,hQ⟩:=h₂
 refine wpAny_bind (wpAny_newObj_type ?_)
 have hSf:s₂.heap.objs.size∉fp:=fun hm=>Bq _ (hfp _ hm)
 rw [hname]
 refine wpAny_pure ⟨plainId_quiet F.plain_min_loop _,sX W hkey s₂.heap.objs.size hSf (fun p hp=>⟨hLw p hp,As (Ak (hLs p hp))⟩) hn (W.frame _ _ _ hst fun b _ o e=>Aa _ e) (Ag _ rfl) (fun p hp=>Aa _ (hLs p hp)) fun v h' tk hP hk=>?_⟩
 exact hQ v h' tk hP fun b o hbw e=>hk b o hbw (As (Ak e)) (Aa _ e)
end
end
structure Lm (K:PySem.W.Frag) (mg:Str->Option Value) (base:Heap) (c P:Addr):Prop where
 hd:PySem.W.codeHdIn K c P=true
 gP:mainGlobals≠P
 bu:base.BuiltinsAt mg P
theorem lW {pos p0:Pos} {c cv:Value}:∀ {l:List Value},TriplesOk l->codeAmong pos (l++[rawInt p0.line,rawInt p0.col,c])=some cv->codeAmong pos l=some cv∨cv=c
 | [],_,e=>by
  simp only [Dr,rawInt,codeAmong] at e
  split at e
  ·exact .inr (Option.some.inj e).symm
  ·cases e
 | .int a t::.int b u::x::r,h,e=>by
  simp only [Fp,codeAmong] at e ⊢
  split
  ·rename_i hc
   rw [if_pos hc] at e
   exact .inl e
  ·rename_i hc
   rw [if_neg hc] at e
   exact lW (show TriplesOk r from h) e
section
variable {X:Cx} {pins:List (Addr×Obj)} {σ:St} {H:Hp} {s:Shared} {c P c':Addr} {q:Str} {ps:Array Value} {h':Heap} {t':Nat}
theorem Inv.grown {p0:Pos} (I:Inv X pins σ H s) (hT:H P=some (.tab q)) (hx:Heap.ExtBut P s.heap h') (hge:s.heap.objs.size<=c') (hcr:h'.CodeRec (.ref c') q) (hP0:s.heap.get? P=some (PySem.W.tabObj ps)) (hPt:h'.get? P=some (PySem.W.tabObj (ps++#[rawInt p0.line,rawInt p0.col,.ref c']))) :
  Inv X pins σ (upd H c' (.own P)) { s with heap:=h',toks:=t' }:=by
 have hf:H c'=none:=I.hok.fresh hge
 have hn:∀ b,H b=none->b≠P:=fun b n z=>by rw [z,hT] at n; cases n
 have hc:∀ b u,H b=some u->b≠c':=fun b u n z=>by rw [z,hf] at n; cases n
 have hlt:∀ b o,s.heap.get? b=some o->b≠c':=fun b o e=>As (Au (Ak e) hge)
 obtain ⟨c2,oc,vs,tq,ec,hoc,hdc,hv⟩:=hcr
 cases ec
 refine I.un ⟨fun b o e n _ _=>hx b o (hn b n) e,fun b o e n _ _=>⟨o.slots,hx b o (hn b n) e⟩,fun b o e n _=>by rw [aJ (hlt b o e)]; exact n,fun b o e _=>?_,fun b xs e=>by rw [aJ (hc b _ e)]; exact e,fun b o u e=>by rw [aJ (hc b _ e)]; exact e,fun b ps e=>⟨#[],by rw [aJ (hc b _ e),e]; simp⟩⟩ ?_
 ·by_cases hb:b=P
  ·subst hb; exact ⟨_,hPt⟩
  ·exact ⟨o,hx b o hb e⟩
 ·intro b u e
  by_cases hb:b=c'
  ·subst hb
   rw [aB] at e; cases e
   exact ⟨oc,hoc⟩
  ·rw [aJ hb] at e
   by_cases hbP:b=P
   ·subst hbP
    rw [hT] at e; cases e
    obtain ⟨ps0,e0,tr,r⟩:∃ ps:Array Value,s.heap.get? b=some { cls:=.none,data:=.fields ps }/\TriplesOk ps.toList/\∀ (pos:Pos) (cv:Value),codeAmong pos ps.toList=some cv->∃ (c:Addr) (o:Obj) (vs:Array Value) (t:Tok),cv=.ref c/\H c=some (.own b)/\s.heap.get? c=some o/\o.data=.fields vs/\(vs[1]?:Option Value)=some (.str q t):=I.hok b _ hT
    rw [hP0] at e0
    cases e0
    have el:(ps++#[rawInt p0.line,rawInt p0.col,Value.ref c']).toList=ps.toList++[rawInt p0.line,rawInt p0.col,.ref c']:=by simp
    refine ⟨_,hPt,by rw [el]; exact TriplesOk_snoc _ _ _ _ tr,fun pos cv z=>?_⟩
    rw [el] at z
    rcases lW tr z with z | rfl
    ·obtain ⟨c3,o3,vs3,t3,r1,r2,r3,r4⟩:=r pos cv z
     have n3:c3≠b:=fun y=>by rw [y,hT] at r2; cases r2
     exact ⟨c3,o3,vs3,t3,r1,by rw [aJ (hc _ _ r2)]; exact r2,hx _ _ n3 r3,r4⟩
    ·exact ⟨c',oc,vs,tq,rfl,aB,hoc,hdc,hv⟩
   ·refine (I.hok b u e).stay (fun d v hd z=>hx d v ?_ z) (fun d z=>by rw [aJ (hc _ _ z)]; exact z) fun d xs z=>by rw [aJ (hc _ _ z)]; exact z
    rcases hd with rfl | hd
    ·exact hbP
    ·intro z
     rw [z,hT] at hd; cases hd
theorem aCB {params:Arguments} {body:Expr} {scope:Scope} {pos:Pos} {cl:List (Str×Addr)} {Q:Value->Shared->Prop} {E:Value->Shared->Prop} (I:Inv X pins σ H s) (Z:Lm X.K X.mg X.base c P) (hcode:X.env.code=.ref c) (hT:H P=some (.tab q)) (hq:X.env.qual ++ "<lambda>" = q)
  (hdef:defaultsOf params X.env=([],[])) (hcl:closureFor scope X.env=pure cl)
  (h:∀ f c' ctv pm s' H',Inv X pins σ H' s'->aE H H'->(∀ b o,b≠P->s.heap.get? b=some o->s'.heap.get? b=some o) ->
   s'.heap.get? f=some { cls:=.type "function",data:=.func (PySem.W.kla_fn "<lambda>" q params body scope cl pm (.ref c') ctv) }->s'.heap.CodeRec (.ref c') q->Q (.ref f) s') :
  wpAny (model X.prog X.w) X.A (eval (.Lambda params body scope pos) X.env) Q E s:=by
 obtain ⟨ps,hP,tr,r⟩:∃ ps:Array Value,s.heap.get? P=some { cls:=.none,data:=.fields ps }/\TriplesOk ps.toList/\∀ (pos:Pos) (cv:Value),codeAmong pos ps.toList=some cv->∃ (c:Addr) (o:Obj) (vs:Array Value) (t:Tok),cv=.ref c/\H c=some (.own P)/\s.heap.get? c=some o/\o.data=.fields vs/\(vs[1]?:Option Value)=some (.str q t):=I.hok P _ hT
 have hg:s.heap.Ns mainGlobals X.mg:=I.mod.glob.keeps I.bk
 have C:PySem.W.CodeHd s.heap c P:=PySem.W.codeHd_of_K I.kIn Z.hd
 have hb:s.heap.BuiltinsAt X.mg P:=by
  obtain ⟨bm,o,e1,e2,e3,e4,e5,e6⟩:=Z.bu
  exact ⟨bm,o,e1,e2,e3,e4,I.bk _ _ e5,e6⟩
 refine PySem.W.kla_eval hdef ?_
 rw [hq]
 cases hf:codeAmong pos ps.toList with
 | none =>
  refine PySem.W.kla_makeFunction hcl I.ok.glob hg hcode C hP tr hf Z.gP hb fun c' ctv h' tk hx hge hlt hcr hPt=>?_
  have I1:Inv X pins σ (upd H c' (.own P)) { s with heap:=h',toks:=tk }:=I.grown hT hx hge hcr hP hPt
  have I2:=I1.kept (h':=h'.push (PySem.W.kla_obj "<lambda>" q params body scope cl ((X.mg "__name__").getD .none) c' ctv)) (t':=tk) fun b o e=>Aa _ e
  refine h _ c' ctv _ _ _ I2 (aE.new (I.hok.fresh hge)) (fun b o hbP e=>Aa _ (hx b o hbP e)) (Ag _ rfl) ?_
  obtain ⟨c2,oc,vs,tq,ec,hoc,r⟩:=hcr
  exact ⟨c2,oc,vs,tq,ec,Aa _ hoc,r⟩
 | some cv =>
  obtain ⟨c',o,vs,t,rfl,r2,r3,r4,r5⟩:=r pos cv hf
  refine PySem.W.kla_makeFunctionHit hcl I.ok.glob hg hcode C hP tr hf hb fun ctv h' tk kk hsz=>?_
  have I2:=I.kept (h':=h'.push { cls:=.type "function",data:=.func (PySem.W.kla_fn "<lambda>" q params body scope cl ((X.mg "__name__").getD .none) (.ref c') ctv) }) (t':=tk) fun b o e=>Aa _ (kk b o e)
  exact h _ c' ctv _ _ _ I2 (aE.refl H) (fun b o _ e=>Aa _ (kk b o e)) (Ag _ rfl) ⟨c',o,vs,t,rfl,Aa _ (kk _ _ r3),r4,r5⟩
end
theorem lX (num:Nat->Int):∀ k,∀ l,l < argBest (btK num) k->num (argBest (btK num) k) < num l
 | 0=>fun l hl=>by simp [argBest] at hl
 | k+1=>fun l hl=>by
  have h2:=(argBest_lt num k).2
  simp only [argBest] at hl ⊢
  by_cases hc:num (k+1) < num (argBest (btK num) k)
  ·rw [if_pos (show btK num (k+1) (argBest (btK num) k)=true from decide_eq_true hc)] at hl ⊢
   have:=h2 l (by omega)
   show num (k+1) < num l
   have e:num (argBest (fun i j=>decide (num i < num j)) k)=num (argBest (btK num) k):=rfl
   omega
  ·rw [if_neg (show ¬ btK num (k+1) (argBest (btK num) k)=true from fun z=>hc (of_decide_eq_true z))] at hl ⊢
   exact lX num k l hl
def aAB (K:PySem.W.Frag) (H:Hp) (x:V) (ns:List Int):Prop:=∃ a,x=.ref a/\(SqL K H a (ns.map V.int)∨SqT K H a (ns.map V.int)∨∃ kvs:List (Key×V),H a=some (.dK kvs)/\kvs.map (·.1)=ns.map Sum.inl)
def aAC (K:PySem.W.Frag) (H:Hp) (u:V) (n k:Int):Prop:=0<=n/\n < 1000/\∃ a xs,u=.ref a/\(SqT K H a xs∨SqL K H a xs)/\xs[n.toNat]?=some (.int k)
def aDR (K:PySem.W.Frag) (P:Addr) (q:Str) (iv:Nat) (te:TE):TE:=fun σ H Q=>te σ H fun x H1=>∃ (ns:List Int) (kf:Int->Int) (u:V),aAB K H1 x ns/\0 < ns.length/\H1 P=some (.tab q)/\σ[iv]?=some (some u)/\(∀ n∈ns,aAC K H1 u n (kf n)) /\
 ∀ (j:Nat) (m:Int) (H2:Hp),aE H1 H2->ns[j]?=some m->(∀ n∈ns,kf m<=kf n)->(∀ (l:Nat) (n:Int),l < j->ns[l]?=some n->kf m < kf n)->Q (.int m) H2
section
variable {X:Cx} {pins:List (Addr×Obj)} {σ:St} {H:Hp} {s:Shared}
theorem zI {A:Around} {x:V} {u:Value} {ns:List Int} {Q:Value->Shared->Prop} {E:Value->Shared->Prop} (hh:A.handled=none) (I:Inv X pins σ H s) (hx:aAB X.K H x ns) (r:bI x u)
  (h:∀ (It:Addr) fp (Pv:Nat->Value->Prop) St s2,Walks X.prog X.w A It fp [It] ns.length Pv St->(∀ i v,Pv i v->∃ n t,ns[i]?=some n/\v=.int n t)->St 0 s2.heap->(∀ b∈fp,b < s2.heap.objs.size)->s.heap.objs.size<=It ->
   (∀ b o,s.heap.get? b=some o->s2.heap.get? b=some o)->(∃ h2,s2={ s with heap:=h2 })->Q (.ref It) s2):wpAny (model X.prog X.w) A (pyIter u) Q E s:=by
 obtain ⟨a,rfl,hx⟩:=hx
 cases r
 rcases hx with hx | hx | ⟨kvs,hx,hk⟩
 ·obtain ⟨its,rv,p,hz⟩:=I.list hx
  have hl:=rv.length
  rw [Ac] at hl
  have ht:=p.isList
  have hlt:a < s.heap.objs.size:=by obtain ⟨o,e,_⟩:=ht; exact Ak e
  have hne:a≠s.heap.objs.size:=As hlt
  have W0:=Walks.list (prog:=X.prog) (w:=X.w) (A:=A) hh s.heap.objs.size a hne its.toArray
  rw [show its.toArray.size=ns.length by rw [Aj,hl]] at W0
  refine wpAny_pyIter_list ht (h s.heap.objs.size [s.heap.objs.size,a] _ _ { s with heap:=s.heap.push { cls:=.type "list_iterator",data:=.fields #[.ref a,.int 0 0] } } W0 (fun i v e=>?_) ⟨⟨_,Ag _ rfl,rfl,rfl⟩,ht.push _⟩ (fun b hb=>?_) (Ai _) (fun b o e=>Aa _ e) ⟨_,rfl⟩)
  ·have e':its[i]?=some v:=by simpa using e
   obtain ⟨hi,_⟩:=Ad.mp e'
   obtain ⟨w',ew,rw'⟩:=rv.get (i:=i) (x:=.int (ns[i]'(by omega))) (by rw [Af,Ae (show i < ns.length by omega)]; rfl)
   rw [e'] at ew; cases ew
   obtain ⟨t,rfl⟩:=rw'
   exact ⟨_,t,Ae (show i < ns.length by omega),rfl⟩
  ·show b < (s.heap.push _).objs.size
   rw [Bj]
   simp only [Am,Ap,or_false] at hb
   rcases hb with hb | hb
   ·rw [hb]; exact Dx _
   ·rw [hb]; exact Bz hlt
 ·obtain ⟨its,rv,p,hz⟩:=I.tuple hx
  have hl:=rv.length
  rw [Ac] at hl
  have ht:s.heap.IsTuple a its.toArray:=p
  have hlt:a < s.heap.objs.size:=by obtain ⟨o,e,_⟩:=ht; exact Ak e
  have hne:a≠s.heap.objs.size:=As hlt
  have W0:=Walks.tuple (prog:=X.prog) (w:=X.w) (A:=A) hh s.heap.objs.size a hne its.toArray
  rw [show its.toArray.size=ns.length by rw [Aj,hl]] at W0
  refine wpAny_pyIter_tuple ht (h s.heap.objs.size [s.heap.objs.size,a] _ _ { s with heap:=s.heap.push { cls:=.type "tuple_iterator",data:=.fields #[.ref a,.int 0 0] } } W0 (fun i v e=>?_) ⟨⟨_,Ag _ rfl,rfl,rfl⟩,ht.push _⟩ (fun b hb=>?_) (Ai _) (fun b o e=>Aa _ e) ⟨_,rfl⟩)
  ·have e':its[i]?=some v:=by simpa using e
   obtain ⟨hi,_⟩:=Ad.mp e'
   obtain ⟨w',ew,rw'⟩:=rv.get (i:=i) (x:=.int (ns[i]'(by omega))) (by rw [Af,Ae (show i < ns.length by omega)]; rfl)
   rw [e'] at ew; cases ew
   obtain ⟨t,rfl⟩:=rw'
   exact ⟨_,t,Ae (show i < ns.length by omega),rfl⟩
  ·show b < (s.heap.push _).objs.size
   rw [Bj]
   simp only [Am,Ap,or_false] at hb
   rcases hb with hb | hb
   ·rw [hb]; exact Dx _
   ·rw [hb]; exact Bz hlt
 ·obtain ⟨hz,hs,vs,kv,dd⟩:bR X.prog X.w H s.heap a (.dK kvs):=I.hok a _ hx
  obtain ⟨ep,da⟩:=dd.dictAt
  have hl:kvs.length=vs.length:=kv.length
  have hln:vs.length=ns.length:=by
   have:=congrArg Fl hk
   rw [Ac,Ac] at this
   omega
  have hlt:=da.lt_size
  have hne:a≠s.heap.objs.size:=As hlt
  have W0:=Walks.dictKeys (prog:=X.prog) (w:=X.w) (A:=A) (knd:=cM X.prog X.w) hh s.heap.objs.size a hne vs ep
  rw [hln] at W0
  refine wpAny_pyIter_dict hs da (h s.heap.objs.size [s.heap.objs.size,a] _ _ { s with heap:=s.heap.push { cls:=.type "dict_keyiterator",data:=.fields #[.ref a,.int 0 0,.int vs.length 0,.int ep 0] } } W0 (fun i v e=>?_) ⟨⟨_,Ag _ rfl,rfl,by rw [hln]; rfl⟩,da.push _⟩ (fun b hb=>?_) (Ai _) (fun b o e=>Aa _ e) ⟨_,rfl⟩)
  ·obtain ⟨k,x,hi,hk2⟩:=e
   have e1:(vs.map (·.1))[i]?=some k:=by rw [Af,hi]; rfl
   rw [<- kv.keys,hk,Af] at e1
   cases q:ns[i]? with
   | none=>rw [q] at e1; cases e1
   | some n =>
    rw [q] at e1
    have:k=Sum.inl n:=(Option.some.inj e1).symm
    subst this
    obtain ⟨t,rfl⟩:bI (.int n) v:=xI hk2
    exact ⟨n,t,rfl,rfl⟩
  ·show b < (s.heap.push _).objs.size
   rw [Bj]
   simp only [Am,Ap,or_false] at hb
   rcases hb with hb | hb
   ·rw [hb]; exact Dx _
   ·rw [hb]; exact Bz hlt
theorem aAD {u:V} {uv:Value} {n k:Int} (I:Inv X pins σ H s) (hk:aAC X.K H u n k) (r:bI u uv):∃ t,iY s.heap uv n (.int k t):=by
 obtain ⟨h0,h1,a,xs,rfl,hx | hx,he⟩:=hk
 ·cases r
  obtain ⟨its,rv,p,hz⟩:=I.tuple hx
  obtain ⟨w',ew,t,rfl⟩:=rv.get he
  exact ⟨t,a,rfl,.inl ⟨its.toArray,p,h0,h1,by simpa using ew⟩⟩
 ·cases r
  obtain ⟨its,rv,p,hz⟩:=I.list hx
  obtain ⟨w',ew,t,rfl⟩:=rv.get he
  exact ⟨t,a,rfl,.inr ⟨its.toArray,p.isList,h0,h1,by simpa using ew⟩⟩
theorem iY.obj {h:Heap} {u:Value} {i:Int} {v:Value} (x:iY h u i v):∃ p o,u=.ref p/\h.get? p=some o/\∀ h':Heap,h'.get? p=some o->iY h' u i v:=by
 obtain ⟨p,rfl,⟨its,⟨o,ho,r⟩,q⟩ | ⟨its,⟨o,ho,r⟩,q⟩⟩:=x
 ·exact ⟨p,o,rfl,ho,fun h' e=>⟨p,rfl,.inl ⟨its,⟨o,e,r⟩,q⟩⟩⟩
 ·exact ⟨p,o,rfl,ho,fun h' e=>⟨p,rfl,.inr ⟨its,⟨o,e,r⟩,q⟩⟩⟩
theorem aBt {e:Expr} {te:TE} {p kpos lpos p1 p2 p3 pos:Pos} {params:Arguments} {scope:Scope} {vn xn:Str} {c P:Addr} {q:Str} (iv:Nat) (hc:X.calm=true) (hr:Room 1 X.A) (hg:Gl X "min") (hm:X.mg "min" = none) (Z:Lm X.K X.mg X.base c P) (hcode:X.env.code=.ref c) (hq:X.env.qual ++ "<lambda>" = q)
  (he:PE X e te) (hN:X.N[iv]?=some vn) (hkv:X.env.kindOf vn=some .cell)
  (hdef:defaultsOf params X.env=([],[]):=by rfl) (hcl:fP X.env scope.names []=(match X.env.cells.lookup vn with | some c=>[(vn,c)] | none=>[]):=by rfl)
  (hfr:∀ y∈scope.names,y.2=.free->y.1=vn:=by decide +kernel)
  (hbind:∀ (cl:List (Str×Addr)) (pm cdv ctv:Value) (i:Int) (t:Tok),bindArgs (PySem.W.kla_fn "<lambda>" q params (.Subscript (.Name vn p1) (.Name xn p2) p3) scope cl pm cdv ctv) ⟨[.int i t],[]⟩=pure [(xn,.int i t)]:=by intro _ _ _ _ _ _; rfl)
  (hx:scope.names.lookup xn=some .local:=by rfl) (hv:scope.names.lookup vn=some .free:=by rfl) (hco:scope.isCoroutine=false:=by rfl) (hgen:scope.isGenerator=false:=by rfl) (hk:scope.kind=.function:=by rfl) (hcell:∀ x∈scope.names,x.2≠.cell:=by decide +kernel)
  (d1:(vn==("__debug__" : Str))=false:=by decide) (d2:(vn==("__classdict__" : Str))=false:=by decide) (d3:(xn==("__debug__" : Str))=false:=by decide)
  (hs1:starEach [e] X.env = [(false,eval e X.env)]:=by rfl) :
  PE X (.Call (.Name "min" p) [e] [⟨some "key",.Lambda params (.Subscript (.Name vn p1) (.Name xn p2) p3) scope lpos,kpos⟩] pos) (aDR X.K P q iv te):=by
 intro pins s σ H Q I h
 refine wpAny_Call_Name_kw (iU (u:=.builtin "min") I hg hm (by decide +kernel) ?_)
 have hpa:PA X [e] (wM te aB5):=aA he aC hs1
 refine callWith_kw (thn (hpa pos pins s σ H (fun vs H1=>match vs with
   | [x] => ∃ (ns : List Int) (kf : Int -> Int) (u : V), aAB X.K H1 x ns /\ 0 < ns.length /\ H1 P = some (.tab q) /\ σ[iv]? = some (some u) /\ (∀ n ∈ ns, aAC X.K H1 u n (kf n)) /\
       ∀ (j:Nat) (m:Int) (H2:Hp),aE H1 H2->ns[j]?=some m->(∀ n∈ns,kf m<=kf n)->(∀ (l:Nat) (n:Int),l < j->ns[l]?=some n->kf m < kf n)->Q (.int m) H2
   | _=>False) I h) fun us s1 ⟨vs,H1,I1,r1,q1⟩=>?_) (by rw [hs1]; rfl) (by rw [hs1]; rfl)
 match vs,r1,q1 with
 | [x],r1,q1 =>
  obtain ⟨ns,kf,u,hit,hpos,hT,hu,hkeys,k⟩:=q1
  obtain ⟨xv,rfl,rx⟩:=eN r1
  -- the cell of the name
  obtain ⟨m1,hns1,hl1⟩:=id I1.loc
  obtain ⟨uv,ru,lk⟩:=hl1 iv vn u hN hu (.inr (.inl hkv))
  obtain ⟨cc,hcc,hIc⟩:∃ cc,X.env.cells.lookup vn=some cc/\s1.heap.IsCell cc (some uv):=by
   rcases lk with ⟨z,_⟩ | ⟨_,z⟩
   ·rw [hkv] at z; cases z
   ·exact z
  have hclo:closureFor scope X.env=pure [(vn,cc)]:=by
   rw [yY fun y hy z=>⟨cc,by rw [hfr y hy z]; exact hcc⟩,hcl,hcc]
  refine kws_cons (aCB I1 Z hcode hT hq hdef hclo fun f c' ctv pm s2 H2 I2 sm kk hf hcr=>kws_nil ?_)
  show wpAny (model X.prog X.w) X.A (call (.builtin "min") [xv] [(Str.ofString "key",.ref f)]) _ _ _
  have hit2:aAB X.K H2 x ns:=by
   obtain ⟨a,rfl,z | z | ⟨kvs,z,y⟩⟩:=hit
   ·exact ⟨a,rfl,.inl (sm.seqL z)⟩
   ·exact ⟨a,rfl,.inr (.inl (sm.seqT z))⟩
   ·exact ⟨a,rfl,.inr (.inr ⟨kvs,sm _ _ z,y⟩)⟩
  have hkeys2:∀ n∈ns,aAC X.K H2 u n (kf n):=fun n hn=>by
   obtain ⟨h0,h1,a,xs,rfl,z | z,y⟩:=hkeys n hn
   ·exact ⟨h0,h1,a,xs,rfl,.inl (sm.seqT z),y⟩
   ·exact ⟨h0,h1,a,xs,rfl,.inr (sm.seqL z),y⟩
  -- what stays through the loop
  obtain ⟨fo,efo,hf⟩:∃ fo:Obj,fo={ cls:=.type "function",data:=.func (PySem.W.kla_fn "<lambda>" q params (.Subscript (.Name vn p1) (.Name xn p2) p3) scope [(vn,cc)] pm (.ref c') ctv) }/\s2.heap.get? f=some fo:=⟨_,rfl,hf⟩
  obtain ⟨c2,oc,cvs,tq,ec,hoc,hdc,hcv⟩:=hcr
  cases ec
  obtain ⟨ocl,hocl,hdcl⟩:s2.heap.IsCell cc (some uv):=by
   obtain ⟨o,ho,hd⟩:=hIc
   have nP:cc≠P:=fun z=>by rw [z] at hcc; have:=I1.freeC _ _ hcc; rw [hT] at this; cases this
   exact ⟨o,kk _ _ nP ho,hd⟩
  obtain ⟨mc,⟨oL,esL,epL,hoL,hdL,rL⟩,hlim⟩:=I2.nolimit
  have n0:ns[0]?=some (ns[0]):=Ae hpos
  obtain ⟨t0,it0⟩:=aAD I2 (hkeys2 _ (Ah n0)) ru
  obtain ⟨pu,ou,eu,hou,_⟩:=it0.obj
  refine vF (f:=f) (zI (A:=X.A.in1) (I2.ok.hd hc) I2 hit2 rx fun It fp Pv St s3 W hPv hst hfp hIt hk3 hx9=>?_)
  obtain ⟨h3,e3⟩:=hx9
  subst e3
  refine ⟨It,fp,[It],ns.length,Pv,St,fun i=>kf (ns.getD i 0),[(f,fo),(c',oc),(cc,ocl),(cStatics,oL),(pu,ou)],rfl,W,hst,hfp,hpos,?_,?_,?_,fun v h' tk hP kk'=>?_⟩
  ·intro i v s4 Q4 E4 hi hPi hL hQ4
   obtain ⟨n,t,hn,rfl⟩:=hPv i v hPi
   have eg:ns.getD i 0=n:=by rw [Bc,hn]; rfl
   obtain ⟨tk,itk⟩:=aAD I2 (hkeys2 _ (Ah hn)) ru
   have it4:iY s4.heap uv n (.int (kf n) tk):=by
    obtain ⟨p',o',e',ho',hh⟩:=itk.obj
    rw [eu] at e'; cases e'
    rw [hou] at ho'; cases ho'
    exact hh _ (hL (pu,ou) (by simp))
   have rm:X.A.in1.depth < recursionLimit:=(Room.in1 hr).depth
   refine aCz (cl:=[(vn,cc)]) (c:=cc) rm ⟨mc,⟨oL,esL,epL,hL (cStatics,oL) (by simp),hdL,rL⟩,hlim⟩ (by rw [<- efo]; exact hL (f,fo) (by simp)) ⟨c',oc,cvs,tq,rfl,hL (c',oc) (by simp),hdc,hcv⟩ (hbind _ _ _ _ _ _) hx hv hco hgen hk hcell (by simp [List.lookup]) ⟨ocl,hL (cc,ocl) (by simp),hdcl⟩ it4 (fun h5 tk5 k5=>?_) d1 d2 d3
   have:=hQ4 h5 tk5 tk k5
   dsimp only at this
   rw [eg] at this
   exact this
  ·intro pr hpr hz
   have hlt:∀ b o,s2.heap.get? b=some o->b≠It:=fun b o e=>As (Au (Ak e) hIt)
   simp only [An] at hz
   simp only [Am,Ap,or_false] at hpr
   rcases hpr with rfl | rfl | rfl | rfl | rfl
   ·exact hlt _ _ hf hz
   ·exact hlt _ _ hoc hz
   ·exact hlt _ _ hocl hz
   ·exact hlt _ _ hoL hz
   ·exact hlt _ _ hou hz
  ·intro pr hpr
   simp only [Am,Ap,or_false] at hpr
   rcases hpr with rfl | rfl | rfl | rfl | rfl
   ·exact hk3 _ _ hf
   ·exact hk3 _ _ hoc
   ·exact hk3 _ _ hocl
   ·exact hk3 _ _ hoL
   ·exact hk3 _ _ hou
  ·obtain ⟨n,t,hn,rfl⟩:=hPv _ v hP
   have I3:Inv X pins σ H2 { s2 with heap:=h',toks:=tk }:=I2.kept fun b o e=>kk' b o (by simp; exact As (Au (Ak e) hIt)) (hk3 b o e)
   have b1:=argBest_lt (fun i=>kf (ns.getD i 0)) (ns.length - 1)
   have b2:=lX (fun i=>kf (ns.getD i 0)) (ns.length - 1)
   have hat:∀ i y,ns[i]?=some y->ns.getD i 0=y:=fun i y e=>by rw [Bc,e]; rfl
   refine ⟨.int n,H2,I3,⟨t,rfl⟩,k _ n H2 sm hn (fun y hy=>?_) (fun l y hl hy=>?_)⟩
   ·obtain ⟨i,hi⟩:=Bb.mp hy
    have:=b1.2 i (by have:=(Ad.mp hi).1; omega)
    have e1:=hat _ _ hn
    have e2:=hat _ _ hi
    show kf n<=kf y
    rw [<- e1,<- e2]; exact this
   ·have:=b2 l hl
    have e1:=hat _ _ hn
    have e2:=hat _ _ hy
    rw [<- e1,<- e2]; exact this
end
def aCC (ts:List (Addr×Str)) (H:Hp):Prop:=(∀ b,H b=none∨(∃ o xs,H b=some (.frz o (.lst xs)))∨∃ q,H b=some (.tab q)/\(b,q)∈ts)/\∀ p∈ts,H p.1=some (.tab p.2)
theorem qX {h:Heap} {c P:Addr} (C:PySem.W.CodeHd h c P) (e:h.get? P=some (PySem.W.tabObj #[])):isCodeTable h P:=(C.tab e).isCodeTable
theorem aBu {P:Program} {w:World} {K:PySem.W.Frag} {mg mb:Str->Option Value} {CX:CXT} {k:Nat} {fa a:Addr} {fd:FuncData} {x:Str} {sp:Sp} {s₁:Shared} {vs:List Value} {ns:List Int} {ts:List (Addr×Str)}
  (KX:K.In s₁.heap) (hns:s₁.heap.Ns mainGlobals mg) (hb:s₁.heap.Ns builtinsNs mb) (hbb:∀ x:Str,x ≠ "__name__" -> mb x=bootBuiltins x) (hlim:s₁.heap.NoLimit) (hmod:∃ mm,s₁.heap.Ns sysModules mm) (hg:s₁.gens = #[])
  (hbm:∃ bm ob,mg "__builtins__" = some (.ref bm)/\bm≠builtinsNs/\s₁.heap.get? bm=some ob/\ob.cls=.type "module" /\ ob.dict=some builtinsNs/\ob.data=.plain)
  (hts:∀ p∈ts,s₁.heap.get? p.1=some (PySem.W.tabObj #[])/\K.lookup p.1=none/\∃ c,PySem.W.CodeHd s₁.heap c p.1) (hnd:(ts.map (·.1)).Nodup)
  (ha:s₁.heap.get? a=some { cls:=.type "list",data:=.seq vs.toArray }) (hi:IntsAre vs ns) (hl:ns.length<=sizeLine) (hr:Room k callerA)
  (F:∀ base:Heap,K.In base->base.Ns mainGlobals mg->(∀ p∈ts,base.BuiltinsAt mg p.1)->FnOk P w K mg base CX k fa fd [x] sp) (hbind:∀ (s:Shared) (u:Value),BindsTo s fd ⟨[u],[]⟩ [(x,u)])
  (hsp:∀ H:Hp,aCC ts H->SqL K H a (ns.map V.int)->sp [.ref a] H (fun v H'=>v=.bl true/\∀ p∈ts,H' p.1=some (.tab p.2)) fun _ _ _=>False)
  (hCX:∀ H e s',CX [] H s₁ (fun _ _ _=>False) e s'->False) :
  codeAny (model P w) callerA (.call (.ref fa) ⟨[.ref a],[]⟩) (fun r s'=>r=.ok (.ret (.bool true))/\OldK s₁.heap s'.heap/\s'.os=s₁.os/\AllBare s'.gens) s₁:=by
 have rv:=jB hi
 have lenV:=hi.length
 have na:∀ p∈ts,p.1≠a:=fun p hp z=>by
  have:=(hts p hp).1
  rw [z,ha] at this; cases this
 -- from an abstract heap in which nothing but the script and the tables may be tracked
 have core:∀ H:Hp,aCC ts H->SqL K H a (ns.map V.int)->HOk P w H s₁.heap->(∀ b,H b≠none->b=a∨∃ q,(b,q)∈ts)->(H a≠none->K.lookup a=none) ->
   codeAny (model P w) callerA (.call (.ref fa) ⟨[.ref a],[]⟩) (fun r s'=>r=.ok (.ret (.bool true))/\OldK s₁.heap s'.heap/\s'.os=s₁.os/\AllBare s'.gens) s₁:=by
  intro H hO hS hok hA hK
  have base_of:∀ {b:Addr} {o:Obj},s₁.heap.get? b=some o->H b=none->(sL s₁.heap H).get? b=some o:=fun e n=>aBU e n
  have noA:∀ {b:Addr} {o:Obj} {es:Array DictEntry} {ep:Nat},s₁.heap.get? b=some o->o.data=.dict es ep->H b=none:=fun {b o es ep} e d=>by
   cases q:H b with
   | none=>rfl
   | some u =>
    rcases hA b (by rw [q]; simp) with e' | ⟨q',e'⟩
    ·subst e'
     rw [ha] at e; cases e
     have d':Data.seq vs.toArray _=Data.dict es ep:=d
     cases d'
    ·have:=(hts _ e').1
     have e2:s₁.heap.get? b=some (PySem.W.tabObj #[]):=this
     rw [e] at e2; cases e2
     have d':Data.fields _=Data.dict es ep:=d
     cases d'
  have nsK:∀ {b:Addr} {m:Str->Option Value},s₁.heap.Ns b m->(sL s₁.heap H).Ns b m:=fun {b m} ⟨o,es,ep,e,d,r⟩=>⟨o,es,ep,base_of e (noA e d),d,r⟩
  have hKb:K.In (sL s₁.heap H):=fun b o e=>base_of (KX b o e) (by
   cases q:H b with
   | none=>rfl
   | some u =>
    rcases hA b (by rw [q]; simp) with e' | ⟨q',e'⟩
    ·subst e'
     rw [hK (by rw [q]; simp)] at e; cases e
    ·have:=(hts _ e').2.1
     have e2:K.lookup b=none:=this
     rw [e] at e2; cases e2)
  have hBu:∀ p∈ts,(sL s₁.heap H).BuiltinsAt mg p.1:=fun p hp=>by
   obtain ⟨bm,ob,b1,b2,b3,b4,b5,b6⟩:=hbm
   have hn:H bm=none:=by
    cases q:H bm with
    | none=>rfl
    | some u =>
     rcases hA bm (by rw [q]; simp) with e' | ⟨q',e'⟩
     ·subst e'
      rw [ha] at b3; cases b3
      have d':Data.seq vs.toArray _=Data.plain:=b6
      cases d'
     ·have e2:s₁.heap.get? bm=some (PySem.W.tabObj #[]):=(hts _ e').1
      rw [b3] at e2; cases e2
      have d':Data.fields _=Data.plain:=b6
      cases d'
   refine ⟨bm,ob,b1,b2,fun z=>?_,fun z=>?_,base_of b3 hn,b4,b5,b6⟩
   ·obtain ⟨o,es,ep,e,d,r⟩:=hns
    rw [<- z,b3] at e; cases e
    rw [b6] at d; cases d
   ·have e2:s₁.heap.get? p.1=some (PySem.W.tabObj #[]):=(hts _ hp).1
    rw [<- z,b3] at e2; cases e2
    have d':Data.fields _=Data.plain:=b6
    cases d'
  have hM:Mod K mg (sL s₁.heap H):=⟨hKb,nsK hns,⟨mb,nsK hb,hbb⟩,let ⟨mc,h1,h2⟩:=hlim; ⟨mc,nsK h1,h2⟩,let ⟨mm,h1⟩:=hmod; ⟨mm,nsK h1⟩⟩
  have e0:Env0 P w K mg (sL s₁.heap H) callerA [] s₁ H:=⟨rfl,hM,fun b o e=>aDt e,Nat.le_of_eq (aA6 _ _),trivial,fun b hb=>absurd (show b∈([]:List Addr) from hb) (by simp),hok,.of_eq hg⟩
  refine codeAny_mono ((F _ hKb (nsK hns) hBu).run callerA [] s₁ H ⟨[.ref a],[]⟩ [.ref a] [.ref a] _ _ hr e0 (hbind s₁ (.ref a)) (.cons rfl .nil) (hsp H hO hS)) fun r s' h=>?_
  cases r with
  | error e=>exact (hCX H e s' h).elim
  | ok fl =>
   cases fl with
   | next=>exact False.elim h
   | brk=>exact False.elim h
   | cont=>exact False.elim h
   | ret u =>
    obtain ⟨v,H',os,bare,un,hok',r',q,qt⟩:=h
    have q':v=.bl true:=q
    subst q'
    obtain rfl:u=Value.bool true:=r'
    have keep:∀ b o,(∀ q,(b,q)∉ts)->s₁.heap.get? b=some o->s'.heap.get? b=some o:=fun b o hb e=>by
     cases q:H b with
     | none=>exact un.keep b o e q (by intro z; exact absurd (show b∈([]:List Addr) from z) (by simp)) (by simp)
     | some u =>
      rcases hO.1 b with z | ⟨ob,xs,z⟩ | ⟨q',z,zm⟩
      ·rw [q] at z; cases z
      ·have z2:=un.frzs b ob _ z
       obtain ⟨e1,_⟩:=hok b _ z
       obtain ⟨e2,_⟩:=hok' b _ z2
       rw [e] at e1; cases e1
       exact e2
      ·exact absurd zm (hb q')
    have grown:∀ b o q,(b,q)∈ts->s₁.heap.get? b=some o->isCodeTable s₁.heap b/\o=PySem.W.tabObj #[]/\∃ ps,s'.heap.get? b=some (PySem.W.tabObj ps):=fun b o q hm e=>by
     obtain ⟨h1,h2,c,h3⟩:=hts _ hm
     have h1':s₁.heap.get? b=some (PySem.W.tabObj #[]):=h1
     rw [e] at h1'
     obtain ⟨ps,hps,_⟩:bR P w H' s'.heap b (.tab q):=hok' b _ (qt _ hm)
     exact ⟨qX h3 h1,Option.some.inj h1',ps,hps⟩
    refine ⟨rfl,⟨fun b o e=>?_,fun b o e=>?_⟩,os,bare⟩
    ·by_cases hb:∃ q,(b,q)∈ts
     ·obtain ⟨q,hm⟩:=hb
      obtain ⟨ht,rfl,ps,hP⟩:=grown b o q hm e
      exact .inr (.inl ⟨ht,rfl,#[],ps,rfl,by rw [Array.empty_append]; exact hP⟩)
     ·exact .inl (keep b o (fun q z=>hb ⟨q,z⟩) e)
    ·by_cases hb:∃ q,(b,q)∈ts
     ·obtain ⟨q,hm⟩:=hb
      obtain ⟨_,_,ps,hP⟩:=grown b o q hm e
      exact ⟨_,hP⟩
     ·exact ⟨o,keep b o (fun q z=>hb ⟨q,z⟩) e⟩
 -- the tables
 have look:∀ {b:Addr} {q:Str},ts.lookup b=some q->(b,q)∈ts:=fun {b q} e=>by
  clear hts hnd hsp core na F
  induction ts with
  | nil=>cases e
  | cons p r ih =>
   rw [Ci] at e
   cases hb:b==p.1 with
   | true=>rw [hb] at e; cases e; rw [eq_of_beq hb]; exact .head _
   | false=>rw [hb] at e; exact .tail _ (ih e)
 have look2:∀ {b:Addr} {q:Str},(b,q)∈ts->ts.lookup b=some q:=fun {b q} e=>by
  clear hts hsp core na look F
  induction ts with
  | nil=>cases e
  | cons p r ih =>
   rw [Ci]
   rw [Ba,Cu] at hnd
   rcases Am.mp e with rfl | e
   ·simp
   ·have:(b==p.1)=false:=by
     rw [beq_eq_false_iff_ne]
     intro z
     exact hnd.1 (Bd.mpr ⟨(b,q),e,z⟩)
    rw [this]
    exact ih hnd.2 e
 have tabOk:∀ (H:Hp) (b:Addr) (q:Str),(b,q)∈ts->bR P w H s₁.heap b (.tab q):=fun H b q hm=>⟨#[],(hts _ hm).1,trivial,fun pos cv z=>by simp [codeAmong] at z⟩
 cases hk:K.lookup a with
 | some o =>
  have e:=KX a o hk
  rw [ha] at e
  cases e
  refine core (fun b=>(ts.lookup b).map HO.tab) ⟨fun b=>?_,fun p hp=>by show (ts.lookup p.1).map HO.tab=_; rw [look2 (q:=p.2) hp]; rfl⟩ (.inr ⟨_,vs.toArray,_,hk,rfl,rfl,rfl,by rw [Aj,lenV]; exact hl,by simpa using rv⟩) (fun b u z=>?_) (fun b z=>?_) fun z=>?_
  ·cases q:ts.lookup b with
   | none=>exact .inl (by show (ts.lookup b).map HO.tab=none; rw [q]; rfl)
   | some y=>exact .inr (.inr ⟨y,by show (ts.lookup b).map HO.tab=_; rw [q]; rfl,look q⟩)
  ·have z':(ts.lookup b).map HO.tab=some u:=z
   cases q:ts.lookup b with
   | none=>rw [q] at z'; cases z'
   | some y=>rw [q] at z'; cases z'; exact tabOk _ _ _ (look q)
  ·have z':(ts.lookup b).map HO.tab≠none:=z
   cases q:ts.lookup b with
   | none=>rw [q] at z'; exact absurd rfl z'
   | some y=>exact .inr ⟨y,look q⟩
  ·exfalso
   have z':(ts.lookup a).map HO.tab≠none:=z
   cases q:ts.lookup a with
   | none=>rw [q] at z'; exact absurd rfl z'
   | some y=>exact na _ (look q) rfl
 | none =>
  have noa:ts.lookup a=none:=by
   cases q:ts.lookup a with
   | none=>rfl
   | some y=>exact absurd rfl (na _ (look q))
  refine core (fun b=>if b=a then some (.frz { cls:=.type "list",data:=.seq vs.toArray } (.lst (ns.map V.int))) else (ts.lookup b).map HO.tab) ⟨fun b=>?_,fun p hp=>?_⟩ (.inl (.inr ⟨{ cls:=.type "list",data:=.seq vs.toArray },if_pos rfl⟩)) (fun b u z=>?_) (fun b z=>?_) fun _=>hk
  ·by_cases hb:b=a
   ·exact .inr (.inl ⟨_,_,if_pos hb⟩)
   ·cases q:ts.lookup b with
    | none=>exact .inl ((if_neg hb).trans (by rw [q]; rfl))
    | some y=>exact .inr (.inr ⟨y,(if_neg hb).trans (by rw [q]; rfl),look q⟩)
  ·exact (if_neg (na p hp)).trans (by rw [look2 (q:=p.2) hp]; rfl)
  ·by_cases hb:b=a
   ·have z':=(if_pos hb).symm.trans z
    cases z'
    subst hb
    exact ⟨ha,by rw [Ac]; exact hl,vs,_,rv,ha⟩
   ·have z':=(if_neg hb).symm.trans z
    cases q:ts.lookup b with
    | none=>rw [q] at z'; cases z'
    | some y=>rw [q] at z'; cases z'; exact tabOk _ _ _ (look q)
  ·by_cases hb:b=a
   ·exact .inl hb
   ·cases q:ts.lookup b with
    | none=>exact absurd ((if_neg hb).trans (by rw [q]; rfl)) z
    | some y=>exact .inr ⟨y,look q⟩
theorem aCD {l:PySem.W.OpenLaw} {n k:Nat} {q:Program} {loose:List Str} {XP:(Str->Option Value)->Heap->Prop} {YP:World->Heap->Prop} {d:DefRec} {K:Params->PySem.W.Frag} {CX:World->CXT} {sp:World->Sp} {x:Str} {ts:List (Addr×Str)}
  (hn:l.most=some n) (hn2:n<=sizeLine) (hdf:d.params.defaults = []) (hr:Room k callerA) (hq:importsNone q=true)
  (hY:∀ (w:World) (h:Heap),YP w h->(K w.params).In h)
  (hts:∀ (w:World) (h:Heap),YP w h->∀ p∈ts,h.get? p.1=some (PySem.W.tabObj #[])/\(K w.params).lookup p.1=none/\∃ c,PySem.W.CodeHd h c p.1) (hnd:(ts.map (·.1)).Nodup)
  (F:∀ (w:World) (mg:Str->Option Value) (fa:Addr) (h:Heap),(K w.params).In h->h.Ns mainGlobals mg->mg d.name=some (.ref fa) ->
   ∃ fd:FuncData,(∀ (s:Shared) (u:Value),BindsTo s fd ⟨[u],[]⟩ [(x,u)]) /\
    ∀ base:Heap,(K w.params).In base->base.Ns mainGlobals mg->(∀ p∈ts,base.BuiltinsAt mg p.1)->FnOk l.prog w (K w.params) mg base (CX w) k fa fd [x] (sp w))
  (hsp:∀ (w:World) (H:Hp) (a:Addr) (ns:List Int),ns.length<=n->aCC ts H->SqL (K w.params) H a (ns.map V.int)->sp w [.ref a] H (fun v H'=>v=.bl true/\∀ p∈ts,H' p.1=some (.tab p.2)) fun _ _ _=>False)
  (hCX:∀ (w:World) (H:Hp) (s:Shared) (e:Value) (s':Shared),CX w [] H s (fun _ _ _=>False) e s'->False) :
  PySem.W.WalkO q loose XP YP l.row.toRowW d [] (fun f vs=>PySem.call f vs):=by
 refine Att.attach_call hn hdf fun w s₀ s₁ mg mb fa o pm cd doc a vs ns G Y ho hd hcd hmg hobj hints hlen hg=>?_
 have KX:=hY w _ Y
 obtain ⟨fd,hb,hF⟩:=F w mg fa _ KX G.T.g hmg
 exact aBu KX G.T.g G.T.b G.T.builtins G.T.nolimit (let ⟨mm,h1,_⟩:=(G.T.seer hq).mods; ⟨mm,h1⟩) hg G.T.bmain (hts w _ Y) hnd hobj hints (At hlen hn2) hr hF hb (fun H hO hS=>hsp w H a ns hlen hO hS) fun H e s'=>hCX w H s₁ e s'
section
variable {P:Program} {w:World} {K:PySem.W.Frag} {mg:Str->Option Value} {base:Heap}
theorem Fun.okC {x qual:Str} {st:Stmt} {f c:Addr} {fd:FuncData} {N ps:List Str} {k:Nat} {sp:Sp} (F:Fun K x qual st f fd) (hc:fd.code=.ref c) (S:FnScope N ps (aH st)) (len:∀ vs H Q E,sp vs H Q E->vs.length=ps.length)
  (hbody:∀ (A:Around) (outer:List Env) (s:Shared) (H:Hp) (vs:List V) (Q:VK) (E:XK),Room k (A.deeper (envOfC qual (aH st) s.heap.objs.size f (.ref c)))->sp vs H Q E ->
   ∃ t,PSs (yU CX0 P w K mg base N qual (aH st) f (.ref c) A outer s H E).nox (gK st) t/\t { nx:=fun _ H'=>Q .non H',rt:=Q } (nB N vs) H):FnOk P w K mg base CX0 (k+1) f fd ps sp:=by
 obtain ⟨oc,od,kV,doc,pm,an,cdv,ct,osl,rfl,lk,hcd⟩:=F.ex
 have e:cdv=.ref c:=hc
 subst e
 refine aEn lk hcd S len fun A outer s H vs Q E hr hsp=>?_
 obtain ⟨t,h,q⟩:=hbody A outer s H vs Q E hr hsp
 exact ⟨t,h.nox,q⟩
end
abbrev gB (h:Heap) (z TI TO:Addr) (f0:Value) (f1:Bool):Prop :=
 h.get? z=some { cls:=.type "zip",dict:=none,data:=.fields #[f0,.bool f1,.bool false,.ref TI,.ref TO],slots:=#[] }
def F0 (f:Value):Prop:=f=.none∨∃ a t,f=.int a t
theorem xJ {M:Model} {A:Around} {E:Value->Shared->Prop} {s:Shared} {a:Addr} {Q:Option Obj->Shared->Prop} (h:Q (s.heap.get? a) s):wpAny M A (loadIfAlive a) Q E s:=fun Γ p _=>by
 show Sem.wp M Γ (.loadIfAlive a .pure) _ _ p s
 rw [Sem.wp_loadIfAlive]
 exact (Sem.wp_pure ..).mpr h
section
variable {prog:Program} {w:World} {A:Around} {E:Value->Shared->Prop} {s:Shared} {z TI TO i1 i2 l1 l2:Addr} {n1 n2:Nat} {P1 P2:Nat->Value->Prop} {st1 st2:Nat->Heap->Prop}
theorem aCE {f0:Value} {f1:Bool} {Q:Bool->Shared->Prop} (hz:gB s.heap z TI TO f0 f1) (hf:F0 f0) (h1:Q true s) (h2:∀ h' b,gB h' z TI TO f0 b->Heap.SameBut z s.heap h'->Q false { s with heap:=h' }) :
  wpAny (model prog w) A (Builtin.SmallTypes.ownedTupleIsFree (.ref z)) Q E s:=by
 unfold Builtin.SmallTypes.ownedTupleIsFree
 rcases hf with rfl | ⟨a,t,rfl⟩
 ·exact wpAny_bind (wpAny_field hz rfl (x:=.none) rfl (wpAny_pure h1))
 ·refine wpAny_bind (wpAny_field hz rfl (x:=.int a t) rfl ?_)
  show wpAny (model prog w) A (loadIfAlive a.toNat >>= _) Q E s
  refine wpAny_bind (xJ ?_)
  cases hq:s.heap.get? a.toNat with
  | none=>exact wpAny_pure h1
  | some o =>
   show wpAny (model prog w) A (field (.ref z) 1 >>= _) Q E s
   refine wpAny_bind (wpAny_field hz rfl (x:=.bool f1) rfl ?_)
   cases f1 with
   | true=>exact wpAny_pure (h2 s.heap true hz (Heap.SameBut.refl _ _))
   | false =>
    show wpAny (model prog w) A (setField (.ref z) 1 (.bool true) >>= _) Q E s
    refine wpAny_bind (wpAny_setField_rec hz (by simp) fun g hg b=>wpAny_pure (h2 g true hg b))
theorem aCF {k:Nat} {a b f0:Value} {f1:Bool} {Q:Value->Shared->Prop} (D:ZipApart z TI TO i1 i2 l1 l2) (S1:Sub prog w i1 l1 n1 P1 st1) (S2:Sub prog w i2 l2 n2 P2 st2)
  (hz:gB s.heap z TI TO f0 f1) (hf:F0 f0) (hTI:IsPair s.heap TI (.ref i1) (.ref i2)) (hTO:IsPair s.heap TO a b) (h1:st1 k s.heap) (h2:st2 k s.heap) (k1:k < n1) (k2:k < n2)
  (hQ:∀ h' x y f0' f1',P1 k x->P2 k y->F0 f0'->gB h' z TI TO f0' f1'->(∃ a b,IsPair h' TO a b)->st1 (k+1) h'->st2 (k+1) h'->IsPair h' s.heap.objs.size x y->h'.objs.size=s.heap.objs.size+1 ->
   (∀ c o,c≠z->c≠TO->c≠i1->c≠i2->s.heap.get? c=some o->h'.get? c=some o)->Q (.ref s.heap.objs.size) { s with heap:=h' }) :
  wpAny (model prog w) A (Builtin.«zip.__next__» ⟨[.ref z],[]⟩) (fun fin s'=>∃ v,fin=.done (.ret v)/\Q v s') E s:=by
 refine wpAny_bind (m:=field (.ref z) 2) (wpAny_field hz rfl (x:=.bool false) rfl ?_)
 refine wpAny_bind (m:=field (.ref z) 3) (wpAny_field hz rfl (x:=.ref TI) rfl ?_)
 refine wpAny_bind (wpAny_seqItems hTI rfl ?_)
 refine wpAny_bind (m:=Builtin.SmallTypes.ownedTupleIsFree (.ref z)) (aCE hz hf ?_ fun h0 fb hz0 b0=>?_)
 ·simp only [if_true]
  refine wpAny_bind (wpAny_rule ?_)
  refine wpAny_bind (wpAny_field hz rfl (x:=.ref TO) rfl ?_)
  refine wpAny_bind (wpAny_setField_rec hz (by simp) fun g1 hz1 b1=>?_)
  have hz1':gB g1 z TI TO .ellipsis f1:=hz1
  refine wpAny_bind ?_
  simp only [Eo,Eu,Dg,Dv]
  have s1:st1 k g1:=S1.keep _ _ _ h1 fun c hc o e=>b1.extBut c o (by rcases hc with r | r <;> rw [r]; exact D.i1z; exact D.l1z) e
  refine wpAny_bind (wpAny_bind (wpAny_onRaise ?_))
  refine wpAny_bind (m:=Builtin.SmallTypes.nextOf (.ref i1)) (S1.item _ k _ _ _ k1 s1 fun x g2 px t1 b2=>wpAny_pure ?_)
  have o2:IsPair g2 TO a b:=b2.extBut _ _ D.TOi1 (b1.extBut _ _ D.TOz hTO)
  refine wpAny_bind (wpAny_seqItems o2 rfl ?_)
  refine wpAny_bind (wpAny_updateSeq_pair o2 fun g3 o3 b3=>?_)
  have o3':IsPair g3 TO x b:=o3
  refine wpAny_bind (wpAny_letGo (wpAny_pure ?_))
  have s2:st2 k g3:=S2.keep _ _ _ h2 fun c hc o e=>by
   rcases hc with r | r
   ·rw [r] at e ⊢; exact b3.extBut _ _ D.TOi2.symm (b2.extBut _ _ D.i12.symm (b1.extBut _ _ D.i2z e))
   ·rw [r] at e ⊢; exact b3.extBut _ _ D.l2TO (b2.extBut _ _ D.l2i1 (b1.extBut _ _ D.l2z e))
  refine wpAny_bind (wpAny_bind (wpAny_onRaise ?_))
  refine wpAny_bind (m:=Builtin.SmallTypes.nextOf (.ref i2)) (S2.item _ k _ _ _ k2 s2 fun y g4 py t2 b4=>wpAny_pure ?_)
  have o4:IsPair g4 TO x b:=b4.extBut _ _ D.TOi2 o3'
  refine wpAny_bind (wpAny_seqItems o4 rfl ?_)
  refine wpAny_bind (wpAny_updateSeq_pair o4 fun g5 o5 b5=>?_)
  have o5':IsPair g5 TO x y:=o5
  refine wpAny_bind (wpAny_letGo (wpAny_pure (wpAny_pure ?_)))
  refine wpAny_bind (wpAny_seqItems o5' rfl ?_)
  refine wpAny_bind (wpAny_newTuple ?_)
  have sz:g5.objs.size=s.heap.objs.size:=by rw [b5.1,b4.1,b3.1,b2.1,b1.1]
  have z5:gB g5 z TI TO .ellipsis f1:=b5.extBut _ _ D.TOz.symm (b4.extBut _ _ D.i2z.symm (b3.extBut _ _ D.TOz.symm (b2.extBut _ _ D.i1z.symm hz1')))
  have kp5:∀ c o,c≠z->c≠TO->c≠i1->c≠i2->s.heap.get? c=some o->g5.get? c=some o:=fun c o c1 c2 c3 c4 e =>
   b5.extBut _ _ c2 (b4.extBut _ _ c4 (b3.extBut _ _ c2 (b2.extBut _ _ c3 (b1.extBut _ _ c1 e))))
  have t1':st1 (k+1) g5:=S1.keep _ _ _ t1 fun c hc o e=>by
   rcases hc with r | r
   ·rw [r] at e ⊢; exact b5.extBut _ _ D.TOi1.symm (b4.extBut _ _ D.i12 (b3.extBut _ _ D.TOi1.symm e))
   ·rw [r] at e ⊢; exact b5.extBut _ _ D.l1TO (b4.extBut _ _ D.l1i2 (b3.extBut _ _ D.l1TO e))
  have t2':st2 (k+1) g5:=S2.keep _ _ _ t2 fun c hc o e=>by
   rcases hc with r | r
   ·rw [r] at e ⊢; exact b5.extBut _ _ D.TOi2.symm e
   ·rw [r] at e ⊢; exact b5.extBut _ _ D.l2TO e
  have zlt:g5.objs.size≠z:=Cb (Ak z5)
  refine wpAny_bind (m:=Builtin.SmallTypes.ownedTupleHandOut (.ref z) (.ref g5.objs.size)) ?_
  unfold Builtin.SmallTypes.ownedTupleHandOut
  have z6:gB (g5.push { cls:=.type "tuple",data:=.seq #[x,y] }) z TI TO .ellipsis f1:=Aa _ z5
  refine wpAny_bind (wpAny_setField_rec z6 (by simp) fun g7 z7 b7=>?_)
  have z7':gB g7 z TI TO (rawInt g5.objs.size) f1:=z7
  refine wpAny_setField_rec z7' (by simp) fun g8 z8 b8=>?_
  have z8':gB g8 z TI TO (rawInt g5.objs.size) false:=z8
  have up:∀ c o,c≠z->g5.get? c=some o->g8.get? c=some o:=fun c o c1 e=>b8.extBut _ _ c1 (b7.extBut _ _ c1 (Aa _ e))
  have T8:IsPair g8 g5.objs.size x y:=b8.extBut _ _ zlt (b7.extBut _ _ zlt (Ag _ rfl))
  have sz8:g8.objs.size=s.heap.objs.size+1:=by rw [b8.1,b7.1,Bj,sz]
  rw [sz] at z8' T8
  refine wpAny_pure ⟨_,rfl,?_⟩
  show Q (.ref g5.objs.size) _
  rw [sz]
  refine hQ g8 x y _ _ px py (.inr ⟨_,_,rfl⟩) z8' ⟨_,_,up _ _ D.TOz o5'⟩ (S1.keep _ _ _ t1' fun c hc o e=>up c o (by rcases hc with r | r <;> rw [r]; exact D.i1z; exact D.l1z) e) (S2.keep _ _ _ t2' fun c hc o e=>up c o (by rcases hc with r | r <;> rw [r]; exact D.i2z; exact D.l2z) e) T8 sz8 fun c o c1 c2 c3 c4 e=>up c o c1 (kp5 c o c1 c2 c3 c4 e)
 ·simp only [Be,if_false]
  have s1:st1 k h0:=S1.keep _ _ _ h1 fun c hc o e=>b0.extBut c o (by rcases hc with r | r <;> rw [r]; exact D.i1z; exact D.l1z) e
  rw [<- Array.forIn_toList]
  simp only [Dg,Dv]
  refine wpAny_bind (wpAny_bind (wpAny_bind (wpAny_holding ?_)))
  refine wpAny_bind (m:=Builtin.SmallTypes.nextOf (.ref i1)) (S1.item _ k _ _ _ k1 s1 fun x g2 px t1 b2=>wpAny_pure ?_)
  refine wpAny_pure ?_
  have s2:st2 k g2:=S2.keep _ _ _ h2 fun c hc o e=>by
   rcases hc with r | r
   ·rw [r] at e ⊢; exact b2.extBut _ _ D.i12.symm (b0.extBut _ _ D.i2z e)
   ·rw [r] at e ⊢; exact b2.extBut _ _ D.l2i1 (b0.extBut _ _ D.l2z e)
  refine wpAny_bind (wpAny_bind (wpAny_holding ?_))
  refine wpAny_bind (m:=Builtin.SmallTypes.nextOf (.ref i2)) (S2.item _ k _ _ _ k2 s2 fun y g4 py t2 b4=>wpAny_pure ?_)
  refine wpAny_pure (wpAny_pure ?_)
  refine wpAny_bind (wpAny_newTuple ?_ (by show 2<=sizeLine; rw [sizeLine_eq]; decide))
  have sz:g4.objs.size=s.heap.objs.size:=by rw [b4.1,b2.1,b0.1]
  have z4:gB g4 z TI TO f0 fb:=b4.extBut _ _ D.i2z.symm (b2.extBut _ _ D.i1z.symm hz0)
  have kp4:∀ c o,c≠z->c≠i1->c≠i2->s.heap.get? c=some o->g4.get? c=some o:=fun c o c1 c3 c4 e=>b4.extBut _ _ c4 (b2.extBut _ _ c3 (b0.extBut _ _ c1 e))
  have t1':st1 (k+1) g4:=S1.keep _ _ _ t1 fun c hc o e=>by
   rcases hc with r | r
   ·rw [r] at e ⊢; exact b4.extBut _ _ D.i12 e
   ·rw [r] at e ⊢; exact b4.extBut _ _ D.l1i2 e
  refine wpAny_pure ⟨_,rfl,?_⟩
  show Q (.ref g4.objs.size) _
  have T8:IsPair (g4.push { cls:=.type "tuple",data:=.seq #[x,y] }) g4.objs.size x y:=Ag _ rfl
  rw [sz] at T8 ⊢
  refine hQ _ x y _ _ px py hf (Aa _ z4) ⟨_,_,Aa _ (kp4 _ _ D.TOz D.TOi1 D.TOi2 hTO)⟩ (S1.keep _ _ _ t1' fun c hc o e=>Aa _ e) (S2.keep _ _ _ t2 fun c hc o e=>Aa _ e) T8 (by rw [Bj,sz]) fun c o c1 c2 c3 c4 e=>Aa _ (kp4 c o c1 c3 c4 e)
theorem aDS {k:Nat} {a b f0:Value} {f1:Bool} {Q:Fin->Shared->Prop} (hh:A.handled=none) (D:ZipApart z TI TO i1 i2 l1 l2) (S1:Sub prog w i1 l1 n1 P1 st1) (S2:Sub prog w i2 l2 n2 P2 st2)
  (hz:gB s.heap z TI TO f0 f1) (hf:F0 f0) (hTI:IsPair s.heap TI (.ref i1) (.ref i2)) (hTO:IsPair s.heap TO a b) (h1:st1 k s.heap) (h2:st2 k s.heap) (hend:k=n1/\k<=n2∨k=n2/\k < n1)
  (hE:∀ h' e,(∀ c o,c≠z->c≠TO->c≠i1->c≠i2->s.heap.get? c=some o->h'.get? c=some o)->(∃ o,h'.get? e=some o/\o.cls=.type "StopIteration")->E (.ref e) { s with heap:=h' }) :
  wpAny (model prog w) A (Builtin.«zip.__next__» ⟨[.ref z],[]⟩) Q E s:=by
 refine wpAny_bind (m:=field (.ref z) 2) (wpAny_field hz rfl (x:=.bool false) rfl ?_)
 refine wpAny_bind (m:=field (.ref z) 3) (wpAny_field hz rfl (x:=.ref TI) rfl ?_)
 refine wpAny_bind (wpAny_seqItems hTI rfl ?_)
 refine wpAny_bind (m:=Builtin.SmallTypes.ownedTupleIsFree (.ref z)) (aCE hz hf ?_ fun h0 fb hz0 b0=>?_)
 ·simp only [if_true]
  refine wpAny_bind (wpAny_rule ?_)
  refine wpAny_bind (wpAny_field hz rfl (x:=.ref TO) rfl ?_)
  refine wpAny_bind (wpAny_setField_rec hz (by simp) fun g1 hz1 b1=>?_)
  have hz1':gB g1 z TI TO .ellipsis f1:=hz1
  refine wpAny_bind ?_
  simp only [Eo,Eu,Dg,Dv]
  have s1:st1 k g1:=S1.keep _ _ _ h1 fun c hc o e=>b1.extBut c o (by rcases hc with r | r <;> rw [r]; exact D.i1z; exact D.l1z) e
  refine wpAny_bind (wpAny_bind (wpAny_onRaise ?_))
  have fin:∀ (g:Heap) (e:Addr) (g0:Heap),(∃ o,g.get? e=some o/\o.cls=.type "StopIteration")->gB g z TI TO .ellipsis f1->(∀ c o,c≠z->c≠TO->c≠i1->c≠i2->s.heap.get? c=some o->g.get? c=some o) ->
    wpAny (model prog w) A (setField (.ref z) 0 .none) (fun _ s'=>E (.ref e) s') E { s with heap:=g }:=fun g e g0 ⟨oe,hoe,hce⟩ hzz kp=>by
   have hez:e≠z:=fun q=>by rw [q,hzz] at hoe; cases hoe; simp at hce
   exact wpAny_setField_rec hzz (by simp) fun g' _ b'=>hE g' e (fun c o c1 c2 c3 c4 q=>b'.extBut _ _ c1 (kp c o c1 c2 c3 c4 q)) ⟨oe,b'.extBut _ _ hez hoe,hce⟩
  rcases hend with ⟨e1,_⟩ | ⟨e2,k1⟩
  ·rw [e1] at s1
   refine wpAny_bind (m:=Builtin.SmallTypes.nextOf (.ref i1)) (S1.done _ _ _ _ hh s1 fun g2 e b2 he=>?_)
   exact fin g2 e g1 he (b2 _ _ D.i1z.symm hz1') fun c o c1 _ c3 _ q=>b2 _ _ c3 (b1.extBut _ _ c1 q)
  ·refine wpAny_bind (m:=Builtin.SmallTypes.nextOf (.ref i1)) (S1.item _ k _ _ _ k1 s1 fun x g2 px t1 b2=>wpAny_pure ?_)
   have o2:IsPair g2 TO a b:=b2.extBut _ _ D.TOi1 (b1.extBut _ _ D.TOz hTO)
   refine wpAny_bind (wpAny_seqItems o2 rfl ?_)
   refine wpAny_bind (wpAny_updateSeq_pair o2 fun g3 o3 b3=>?_)
   refine wpAny_bind (wpAny_letGo (wpAny_pure ?_))
   have s2:st2 n2 g3:=by
    rw [<- e2]
    exact S2.keep _ _ _ h2 fun c hc o e=>by
     rcases hc with r | r
     ·rw [r] at e ⊢; exact b3.extBut _ _ D.TOi2.symm (b2.extBut _ _ D.i12.symm (b1.extBut _ _ D.i2z e))
     ·rw [r] at e ⊢; exact b3.extBut _ _ D.l2TO (b2.extBut _ _ D.l2i1 (b1.extBut _ _ D.l2z e))
   refine wpAny_bind (wpAny_bind (wpAny_onRaise ?_))
   refine wpAny_bind (m:=Builtin.SmallTypes.nextOf (.ref i2)) (S2.done _ _ _ _ hh s2 fun g4 e b4 he=>?_)
   exact fin g4 e g3 he (b4 _ _ D.i2z.symm (b3.extBut _ _ D.TOz.symm (b2.extBut _ _ D.i1z.symm hz1'))) fun c o c1 c2 c3 c4 q=>b4 _ _ c4 (b3.extBut _ _ c2 (b2.extBut _ _ c3 (b1.extBut _ _ c1 q)))
 ·simp only [Be,if_false]
  have s1:st1 k h0:=S1.keep _ _ _ h1 fun c hc o e=>b0.extBut c o (by rcases hc with r | r <;> rw [r]; exact D.i1z; exact D.l1z) e
  rw [<- Array.forIn_toList]
  simp only [Dg,Dv]
  refine wpAny_bind (wpAny_bind (wpAny_bind (wpAny_holding ?_)))
  rcases hend with ⟨e1,_⟩ | ⟨e2,k1⟩
  ·rw [e1] at s1
   refine wpAny_bind (m:=Builtin.SmallTypes.nextOf (.ref i1)) (S1.done _ _ _ _ hh s1 fun g2 e b2 he=>?_)
   exact hE g2 e (fun c o c1 _ c3 _ q=>b2 _ _ c3 (b0.extBut _ _ c1 q)) he
  ·refine wpAny_bind (m:=Builtin.SmallTypes.nextOf (.ref i1)) (S1.item _ k _ _ _ k1 s1 fun x g2 px t1 b2=>wpAny_pure ?_)
   refine wpAny_pure ?_
   have s2:st2 n2 g2:=by
    rw [<- e2]
    exact S2.keep _ _ _ h2 fun c hc o e=>by
     rcases hc with r | r
     ·rw [r] at e ⊢; exact b2.extBut _ _ D.i12.symm (b0.extBut _ _ D.i2z e)
     ·rw [r] at e ⊢; exact b2.extBut _ _ D.l2i1 (b0.extBut _ _ D.l2z e)
   refine wpAny_bind (wpAny_bind (wpAny_holding ?_))
   refine wpAny_bind (m:=Builtin.SmallTypes.nextOf (.ref i2)) (S2.done _ _ _ _ hh s2 fun g4 e b4 he=>?_)
   exact hE g4 e (fun c o c1 c2 c3 c4 q=>b4 _ _ c4 (b2.extBut _ _ c3 (b0.extBut _ _ c1 q))) he
structure ZipSt (h:Heap) (z TI TO i1 i2:Addr):Prop where
 hz:∃ f0 f1,F0 f0/\gB h z TI TO f0 f1
 ti:IsPair h TI (.ref i1) (.ref i2)
 to:∃ a b,IsPair h TO a b
theorem xK {e:Addr} {i:Nat} {old:Value} {Q:Value->Shared->Prop} (D:ZipApart z TI TO i1 i2 l1 l2) (S1:Sub prog w i1 l1 n1 P1 st1) (S2:Sub prog w i2 l2 n2 P2 st2) (he:IsEnum s.heap e z i old) (Z:ZipSt s.heap z TI TO i1 i2)
  (h1:st1 i s.heap) (h2:st2 i s.heap) (k1:i < n1) (k2:i < n2) (ne:e≠z/\e≠TI/\e≠TO/\e≠i1/\e≠i2/\e≠l1/\e≠l2)
  (hQ:∀ h' x y tk,P1 i x->P2 i y->IsEnumOut h' e z ((i:Int)+1) (.ref s.heap.objs.size) (s.heap.objs.size+1)->ZipSt h' z TI TO i1 i2->st1 (i+1) h'->st2 (i+1) h'->IsPair h' s.heap.objs.size x y ->
   h'.get? (s.heap.objs.size+1)=some { cls:=.type "tuple",data:=.seq #[.int i tk,.ref s.heap.objs.size] } ->
   (∀ c o,c≠e->c≠z->c≠TO->c≠i1->c≠i2->s.heap.get? c=some o->h'.get? c=some o)->Q (.ref (s.heap.objs.size+1)) { s with heap:=h',toks:=s.toks+1 }) :
  wpAny (model prog w) A (Builtin.«enumerate.__next__» ⟨[.ref e],[]⟩) (fun fin s'=>∃ v,fin=.done (.ret v)/\Q v s') E s:=by
 obtain ⟨⟨f0,f1,hf,hz⟩,hTI,⟨a,b,hTO⟩⟩:=Z
 obtain ⟨ne1,ne2,ne3,ne4,ne5,ne6,ne7⟩:=ne
 have hTz:s.TypeIs (.ref z) "zip" := ⟨_,hz,rfl⟩
 refine wpAny_bind (m:=field (.ref e) 2) (wpAny_field he rfl (x:=.ref z) rfl ?_)
 refine wpAny_bind (m:=Builtin.SmallTypes.nextOf (.ref z)) ?_
 unfold Builtin.SmallTypes.nextOf
 refine wpAny_bind (wpAny_callSpecial?_slot (name:=Str.ofString "__next__") hTz PySem.F.slot_zip_next (wpAny_call_entry PySem.F.slot_zip_next hTz PySem.F.entry_zip_next
  (aCF D S1 S2 hz hf hTI hTO h1 h2 k1 k2 fun g1 x y f0' f1' px py hf' hz' hTO' t1 t2 hp hsz kp=>?_) (PySem.F.args_zip_next_1 _)))
 refine wpAny_pure ?_
 have e1:IsEnum g1 e z i old:=kp _ _ ne1 ne3 ne4 ne5 he
 refine wpAny_bind (m:=field (.ref e) 3) (wpAny_field e1 rfl (x:=rawInt i) rfl ?_)
 refine wpAny_bind (m:=field (.ref e) 4) (wpAny_field e1 rfl (x:=.none) rfl ?_)
 refine wpAny_bind (m:=mkInt i) (wpAny_mkInt ?_)
 refine wpAny_bind (m:=setField (.ref e) 3 (rawInt ((i:Int)+1))) (wpAny_setField_rec e1 (by simp) fun g2 e2 b2=>?_)
 have e2':IsEnum g2 e z ((i:Int)+1) old:=e2
 refine wpAny_bind (m:=setField (.ref e) 4 .none) (wpAny_setField_rec e2' (by simp) fun g3 e3 b3=>?_)
 have e3':IsEnum g3 e z ((i:Int)+1) old:=e3
 refine wpAny_bind (m:=newTuple [.int i s.toks,.ref s.heap.objs.size]) (wpAny_newTuple ?_)
 have sz:g3.objs.size=s.heap.objs.size+1:=by rw [b3.1,b2.1,hsz]
 have e4:IsEnum (g3.push { cls:=.type "tuple",data:=.seq #[.int i s.toks,.ref s.heap.objs.size] }) e z ((i:Int)+1) old:=Aa _ e3'
 have T4:(g3.push { cls:=.type "tuple",data:=.seq #[.int i s.toks,.ref s.heap.objs.size] }).get? (s.heap.objs.size+1)=some { cls:=.type "tuple",data:=.seq #[.int i s.toks,.ref s.heap.objs.size] }:=by rw [<- sz]; exact Ag _ rfl
 have up4:∀ c o,c≠e->g1.get? c=some o->(g3.push { cls:=.type "tuple",data:=.seq #[.int i s.toks,.ref s.heap.objs.size] }).get? c=some o:=fun c o c1 q=>Aa _ (b3.extBut _ _ c1 (b2.extBut _ _ c1 q))
 have elt:s.heap.objs.size+1≠e:=Cb (Bz (Ak he))
 have elt0:s.heap.objs.size≠e:=Cb (Ak he)
 rw [sz]
 generalize g3.push { cls:=.type "tuple",data:=.seq #[.int i s.toks,.ref s.heap.objs.size] }=g4 at e4 T4 up4 ⊢
 refine wpAny_bind (m:=Builtin.SmallTypes.ownedTupleIsFree (.ref e)) ?_
 unfold Builtin.SmallTypes.ownedTupleIsFree
 refine wpAny_bind (wpAny_field e4 rfl (x:=.none) rfl (wpAny_pure ?_))
 simp only [if_true]
 refine wpAny_bind (wpAny_rule ?_)
 refine wpAny_bind (wpAny_field e4 rfl (x:=old) rfl ?_)
 refine wpAny_bind (wpAny_setField_rec e4 (by simp) fun g5 e5 b5=>?_)
 have e5':IsEnum g5 e z ((i:Int)+1) (.ref s.heap.objs.size):=e5
 refine wpAny_bind (m:=Builtin.SmallTypes.ownedTupleHandOut (.ref e) (.ref (s.heap.objs.size+1))) ?_
 unfold Builtin.SmallTypes.ownedTupleHandOut
 refine wpAny_bind (wpAny_setField_rec e5' (by simp) fun g6 e6 b6=>?_)
 have e6':IsEnumOut g6 e z ((i:Int)+1) (.ref s.heap.objs.size) (s.heap.objs.size+1):=e6
 refine wpAny_setField_rec e6' (by simp) fun g7 e7 b7=>?_
 have e7':IsEnumOut g7 e z ((i:Int)+1) (.ref s.heap.objs.size) (s.heap.objs.size+1):=e7
 have up:∀ c o,c≠e->g4.get? c=some o->g7.get? c=some o:=fun c o c1 q=>b7.extBut _ _ c1 (b6.extBut _ _ c1 (b5.extBut _ _ c1 q))
 have all:∀ c o,c≠e->g1.get? c=some o->g7.get? c=some o:=fun c o c1 q=>up c o c1 (up4 c o c1 q)
 obtain ⟨a',b',hTO'⟩:=hTO'
 refine wpAny_bind (wpAny_letGo (wpAny_pure ⟨_,rfl,hQ g7 x y s.toks px py e7' ⟨⟨_,_,hf',all _ _ ne1.symm hz'⟩,all _ _ ne2.symm (kp _ _ D.TIz D.TITO D.TIi1 D.TIi2 hTI),⟨_,_,all _ _ ne3.symm hTO'⟩⟩ (S1.keep _ _ _ t1 fun c hc o q=>all c o ?_ q) (S2.keep _ _ _ t2 fun c hc o q=>all c o ?_ q) (all _ _ elt0 hp) (up _ _ elt T4) fun c o c0 c1 c2 c3 c4 q=>all c o c0 (kp c o c1 c2 c3 c4 q)⟩))
 ·rcases hc with r | r <;> rw [r]
  ·exact ne4.symm
  ·exact ne6.symm
 ·rcases hc with r | r <;> rw [r]
  ·exact ne5.symm
  ·exact ne7.symm
theorem zJ {e:Addr} {i:Nat} {old:Value} {Q:Fin->Shared->Prop} (hh:A.handled=none) (D:ZipApart z TI TO i1 i2 l1 l2) (S1:Sub prog w i1 l1 n1 P1 st1) (S2:Sub prog w i2 l2 n2 P2 st2) (he:IsEnum s.heap e z i old) (Z:ZipSt s.heap z TI TO i1 i2)
  (h1:st1 i s.heap) (h2:st2 i s.heap) (hend:i=n1/\i<=n2∨i=n2/\i < n1)
  (hE:∀ h' x,(∀ c o,c≠z->c≠TO->c≠i1->c≠i2->s.heap.get? c=some o->h'.get? c=some o)->(∃ o,h'.get? x=some o/\o.cls=.type "StopIteration")->E (.ref x) { s with heap:=h' }) :
  wpAny (model prog w) A (Builtin.«enumerate.__next__» ⟨[.ref e],[]⟩) Q E s:=by
 obtain ⟨⟨f0,f1,hf,hz⟩,hTI,⟨a,b,hTO⟩⟩:=Z
 have hTz:s.TypeIs (.ref z) "zip" := ⟨_,hz,rfl⟩
 refine wpAny_bind (m:=field (.ref e) 2) (wpAny_field he rfl (x:=.ref z) rfl ?_)
 refine wpAny_bind (m:=Builtin.SmallTypes.nextOf (.ref z)) ?_
 unfold Builtin.SmallTypes.nextOf
 exact wpAny_bind (wpAny_callSpecial?_slot (name:=Str.ofString "__next__") hTz PySem.F.slot_zip_next (wpAny_call_entry PySem.F.slot_zip_next hTz PySem.F.entry_zip_next
  (aDS hh D S1 S2 hz hf hTI hTO h1 h2 hend fun h' x kp hx=>hE h' x kp hx) (PySem.F.args_zip_next_1 _)))
end
def aCG (K:PySem.W.Frag) (k1 k2:Sk) (a b:Addr):It :=
 ⟨fun i H => ∃ xs ys x y, SqK k1 K H a xs /\ SqK k2 K H b ys /\ xs[i]? = some x /\ ys[i]? = some y,
  fun i H v H'=>∃ p q,H p=none/\H q=none/\q≠p/\v=.ref q/\∀ xs ys,SqK k1 K H a xs->SqK k2 K H b ys->∃ x y,xs[i]?=some x/\ys[i]?=some y/\H'=upd (upd H p (.tup [x,y])) q (.tup [.int (i:Nat),.ref p]),
  fun i H=>∃ xs ys,SqK k1 K H a xs/\SqK k2 K H b ys/\min xs.length ys.length=i⟩
theorem vG {P:Program} {w:World} {K:PySem.W.Frag} {es:List Expr} {x1} {pos:Pos} (k1 k2:Sk) (a b e z TI TO i1 i2:Addr) (D:∀ l1 l2:Addr,(∀ c∈[e,z,TI,TO,i1,i2],l1≠c)->(∀ c∈[e,z,TI,TO,i1,i2],l2≠c)->ZipApart z TI TO i1 i2 l1 l2)
  (ne:e≠z/\e≠TI/\e≠TO/\e≠i1/\e≠i2) :
  Turn P w K (.Tuple es x1 pos) (aCG K k1 k2 a b) [e,z,TI,TO,i1,i2] e (fun i h=>(∃ old,IsEnum h e z i old)/\ZipSt h z TI TO i1 i2/\ItK k1 h i1 a i/\ItK k2 h i2 b i) where
 mem:=by simp
 obj:=fun i h st c hc=>by
  obtain ⟨⟨old,he⟩,⟨⟨f0,f1,hf,hz⟩,hTI,⟨x,y,hTO⟩⟩,h1,h2⟩:=st
  simp only [Am,Ap,or_false] at hc
  rcases hc with rfl | rfl | rfl | rfl | rfl | rfl
  ·exact ⟨_,he,fun v q=>by cases q⟩
  ·exact ⟨_,hz,fun v q=>by cases q⟩
  ·exact ⟨_,hTI,fun v q=>by cases q⟩
  ·exact ⟨_,hTO,fun v q=>by cases q⟩
  ·exact h1.obj
  ·exact h2.obj
 keep:=fun i h h' st k=>by
  obtain ⟨⟨old,he⟩,⟨⟨f0,f1,hf,hz⟩,hTI,⟨x,y,hTO⟩⟩,h1,h2⟩:=st
  exact ⟨⟨old,k e (by simp) _ he⟩,⟨⟨f0,f1,hf,k z (by simp) _ hz⟩,k TI (by simp) _ hTI,⟨x,y,k TO (by simp) _ hTO⟩⟩,h1.at fun o e=>k i1 (by simp) o e,h2.at fun o e=>k i2 (by simp) o e⟩
 item:=by
  intro X hP hw hK hc i pins s σ H E I hf st hg
  subst hP hw hK
  obtain ⟨⟨old,he⟩,Z,h1,h2⟩:=st
  obtain ⟨xs,ys,x,y,ha,hb,hx,hy⟩:=hg
  obtain ⟨its,rv,pa⟩:=I.seqK ha
  obtain ⟨jts,rw',pb⟩:=I.seqK hb
  obtain ⟨u,hu,ru⟩:=rv.get hx
  obtain ⟨v,hv,rv2⟩:=rw'.get hy
  have na:∀ c∈[e,z,TI,TO,i1,i2],a≠c:=fun c hc'=>I.seq_ne ha (hf c hc')
  have nb:∀ c∈[e,z,TI,TO,i1,i2],b≠c:=fun c hc'=>I.seq_ne hb (hf c hc')
  have DD:=D a b na nb
  have hT:s.TypeIs (.ref e) "enumerate" := ⟨_,he,rfl⟩
  have hi1:i < its.toArray.size:=by rw [Aj]; exact (Ad.mp hu).1
  have hi2:i < jts.toArray.size:=by rw [Aj]; exact (Ad.mp hv).1
  unfold pyNext
  refine wpAny_bind (wpAny_attempt (wpAny_callSpecial?_slot (name:=Str.ofString "__next__") hT PySem.F.slot_enumerate_next (wpAny_call_entry PySem.F.slot_enumerate_next hT PySem.F.entry_enumerate_next
   (xK DD (sR k1 X.prog X.w i1 a its.toArray (na i1 (by simp))) (sR k2 X.prog X.w i2 b jts.toArray (nb i2 (by simp))) he Z ⟨h1,pa⟩ ⟨h2,pb⟩ hi1 hi2
    ⟨ne.1,ne.2.1,ne.2.2.1,ne.2.2.2.1,ne.2.2.2.2,(na e (by simp)).symm,(nb e (by simp)).symm⟩ fun h' u' v' tk pu pv he' Z' s1 s2 hp1 hp2 kp=>wpAny_pure ?_) (PySem.F.args_enumerate_next_1 _))))
  have eu:u'=u:=by
   have q:its[i]?=some u':=by simpa using pu
   rw [hu] at q
   exact (Option.some.inj q).symm
  have ev:v'=v:=by
   have q:jts[i]?=some v':=by simpa using pv
   rw [hv] at q
   exact (Option.some.inj q).symm
  subst eu ev
  refine ⟨_,rfl,wpAny_letOwnedTupleGo_enum he' fun h2' he2 sb2=>?_⟩
  have T0:s.heap.objs.size≠e:=Cb (Ak he)
  have T1:s.heap.objs.size+1≠e:=Cb (Bz (Ak he))
  have hp1':IsPair h2' s.heap.objs.size u' v':=sb2.extBut _ _ T0 hp1
  have hp2':h2'.get? (s.heap.objs.size+1)=some { cls:=.type "tuple",data:=.seq #[.int i tk,.ref s.heap.objs.size] }:=sb2.extBut _ _ T1 hp2
  have hf0:=I.hok.fresh (Ai s.heap.objs.size)
  have hf1:=I.hok.fresh (Gm s.heap.objs.size)
  have fz:=I.fpOk (Ai s.heap.objs.size) hf0
  have fz1:=I.fpOk (Gm s.heap.objs.size) hf1
  have I2:Inv X pins σ H { s with heap:=h2',toks:=s.toks+1 }:=by
   refine I.turnedL (t':=s.toks+1) [e,z,TO,i1,i2] (fun c o hc' q=>?_) (fun c hc'=>hf c ?_)
   ·simp only [Am,Ap,or_false,not_or] at hc'
    exact sb2.extBut _ _ hc'.1 (kp c o hc'.1 hc'.2.1 hc'.2.2.1 hc'.2.2.2.1 hc'.2.2.2.2 q)
   ·simp only [Am,Ap,or_false] at hc' ⊢
    rcases hc' with r | r | r | r | r
    ·exact .inl r
    ·exact .inr (.inl r)
    ·exact .inr (.inr (.inr (.inl r)))
    ·exact .inr (.inr (.inr (.inr (.inl r))))
    ·exact .inr (.inr (.inr (.inr (.inr r))))
  have I3:Inv X pins σ (upd H s.heap.objs.size (.tup [x,y])) { s with heap:=h2',toks:=s.toks+1 }:=by
   refine I2.trackO (show bR X.prog X.w _ _ _ (.tup [x,y]) from ⟨by show 2<=sizeLine; rw [sizeLine_eq]; decide,[u',v'],0,.cons ru (.cons rv2 .nil),hp1'⟩) hf0 fz.2.1 I.sz fz.2.2.2.2.1 fz.2.2.2.2.2
  have nn:s.heap.objs.size+1≠s.heap.objs.size:=Nat.succ_ne_self _
  have I4:Inv X pins σ (upd (upd H s.heap.objs.size (.tup [x,y])) (s.heap.objs.size+1) (.tup [.int (i:Nat),.ref s.heap.objs.size])) { s with heap:=h2',toks:=s.toks+1 }:=by
   refine I3.trackO (show bR X.prog X.w _ _ _ (.tup [.int (i:Nat),.ref s.heap.objs.size]) from ⟨by show 2<=sizeLine; rw [sizeLine_eq]; decide,[.int i tk,.ref s.heap.objs.size],0,.cons ⟨tk,rfl⟩ (.cons rfl .nil),hp2'⟩) (by rw [aJ nn]; exact hf1) fz1.2.1 (At I.sz (Gm _)) fz1.2.2.2.2.1 fz1.2.2.2.2.2
  obtain ⟨⟨g0,g1,hg,hz'⟩,hTI',⟨a',b',hTO'⟩⟩:=Z'
  refine ⟨.ref (s.heap.objs.size+1),_,I4,rfl,⟨s.heap.objs.size,s.heap.objs.size+1,hf0,hf1,nn,rfl,fun xs' ys' ha' hb'=>?_⟩,⟨⟨_,by simpa using he2⟩,⟨⟨g0,g1,hg,sb2.extBut _ _ ne.1.symm hz'⟩,sb2.extBut _ _ ne.2.1.symm hTI',⟨_,_,sb2.extBut _ _ ne.2.2.1.symm hTO'⟩⟩,s1.1.at fun o q=>sb2.extBut _ _ ne.2.2.2.1.symm q,s2.1.at fun o q=>sb2.extBut _ _ ne.2.2.2.2.symm q⟩,fun c hc'=>?_⟩
  ·rw [I.seqK_inj ha' ha,I.seqK_inj hb' hb]
   exact ⟨x,y,hx,hy,rfl⟩
  ·have cl:c < s.heap.objs.size:=by
    obtain ⟨o,q⟩:∃ o,s.heap.get? c=some o:=by
     obtain ⟨⟨f0,f1,hf',hz⟩,hTI,⟨x',y',hTO⟩⟩:=Z
     simp only [Am,Ap,or_false] at hc'
     rcases hc' with rfl | rfl | rfl | rfl | rfl | rfl
     ·exact ⟨_,he⟩
     ·exact ⟨_,hz⟩
     ·exact ⟨_,hTI⟩
     ·exact ⟨_,hTO⟩
     ·obtain ⟨o,q,_⟩:=h1.obj; exact ⟨o,q⟩
     ·obtain ⟨o,q,_⟩:=h2.obj; exact ⟨o,q⟩
    exact Ak q
   rw [aJ (As (Bz cl)),aJ (As cl)]
   exact (hf c hc').1
 done:=by
  intro X hP hw hK hc i pins s σ H E I hf st hg
  subst hP hw hK
  obtain ⟨⟨old,he⟩,Z,h1,h2⟩:=st
  obtain ⟨xs,ys,ha,hb,hmin⟩:=hg
  obtain ⟨its,rv,pa⟩:=I.seqK ha
  obtain ⟨jts,rw',pb⟩:=I.seqK hb
  have la:=rv.length
  have lb:=rw'.length
  have na:∀ c∈[e,z,TI,TO,i1,i2],a≠c:=fun c hc'=>I.seq_ne ha (hf c hc')
  have nb:∀ c∈[e,z,TI,TO,i1,i2],b≠c:=fun c hc'=>I.seq_ne hb (hf c hc')
  have DD:=D a b na nb
  have hT:s.TypeIs (.ref e) "enumerate" := ⟨_,he,rfl⟩
  unfold pyNext
  refine wpAny_bind (wpAny_attempt (wpAny_callSpecial?_slot (name:=Str.ofString "__next__") hT PySem.F.slot_enumerate_next (wpAny_call_entry PySem.F.slot_enumerate_next hT PySem.F.entry_enumerate_next
   (zJ (I.ok.hd hc) DD (sR k1 X.prog X.w i1 a its.toArray (na i1 (by simp))) (sR k2 X.prog X.w i2 b jts.toArray (nb i2 (by simp))) he Z ⟨h1,pa⟩ ⟨h2,pb⟩ (by rw [Aj,Aj]; omega) fun h' x kp hx=>?_) (PySem.F.args_enumerate_next_1 _))))
  obtain ⟨oe,hoe,hce⟩:=hx
  refine wpAny_bind (wpAny_isInstance (T := "StopIteration") (b:=true) ⟨oe,hoe,hce⟩ isSubtype_stop (wpAny_pure ⟨rfl,?_⟩))
  refine I.turnedL (t':=s.toks) [z,TO,i1,i2] (fun c o hc' q=>?_) (fun c hc'=>hf c ?_)
  ·simp only [Am,Ap,or_false,not_or] at hc'
   exact kp c o hc'.1 hc'.2.1 hc'.2.2.1 hc'.2.2.2 q
  ·simp only [Am,Ap,or_false] at hc' ⊢
   rcases hc' with r | r | r | r
   ·exact .inr (.inl r)
   ·exact .inr (.inr (.inr (.inl r)))
   ·exact .inr (.inr (.inr (.inr (.inl r))))
   ·exact .inr (.inr (.inr (.inr (.inr r))))
 self:=fun _ _ _ _ _ st h=>by
  obtain ⟨⟨old,he⟩,_⟩:=st
  exact wpAny_pyIter_enum he h
theorem sY (z TI TO:Addr) :
  Meets (Builtin.«enumerate.__new__» ⟨[.type "enumerate",.ref z],[]⟩) (fun _ R s=>IsZip s.heap z TI TO .none /\
   R (.ok (.ret (.ref s.heap.objs.size))) { s with heap:=s.heap.push { cls:=.type "enumerate",data:=.fields #[.none,.bool false,.ref z,rawInt 0,.none,.none] } }) :=
 .of_wp fun prog w A R s h=>by
  obtain ⟨hp,g,d,tk,os⟩:=s
  obtain ⟨hl,h⟩:=h
  have hsub:=sub_enumerate
  have hZ:IsZip (Shared.heap ⟨hp,g,d,tk,os⟩) z TI TO .none:=hl
  wp_walk using AutoSeq1.wpAny_loadPart' hZ
  refine wpAny_stack_any fun st=>wpAny_pure ?_
  split
  ·rename_i c _ _ _ _ _
   cases (c==Value.type "enumerate")
   ·wp_walk using AutoSeq1.wpAny_loadPart' hZ,wpAny_pyIter_zip hZ
    exact ⟨_,rfl,h⟩
   ·wp_walk using AutoSeq1.wpAny_loadPart' hZ,wpAny_pyIter_zip hZ
    exact ⟨_,rfl,h⟩
  ·wp_walk using AutoSeq1.wpAny_loadPart' hZ,wpAny_pyIter_zip hZ
   exact ⟨_,rfl,h⟩
section
variable {X:Cx} {es:List Expr} {x1:Nat} {tpos:Pos}
def aCH (K:PySem.W.Frag) (k1 k2:Sk) (ta:TA):TI:=fun σ H R=>ta σ H fun vs H1=>∃ a b xs ys,vs = [.ref a,.ref b]/\SqK k1 K H1 a xs/\SqK k2 K H1 b ys/\R (aCG K k1 k2 a b) H1
theorem qY (k1 k2:Sk) {a b:Expr} {ta:TA} {p pos p' pos':Pos} (hg:Gl X "enumerate") (hm:X.mg "enumerate" = none) (hg2:Gl X "zip") (hm2:X.mg "zip" = none) (ha:PA X [a,b] ta)
  (hs:starEach [a,b] X.env = [(false,eval a X.env),(false,eval b X.env)]:=by rfl) (hs2:starEach [b] X.env = [(false,eval b X.env)]:=by rfl)
  (hs3:starEach [Expr.Call (.Name "zip" p') [a,b] [] pos'] X.env = [(false,eval (.Call (.Name "zip" p') [a,b] [] pos') X.env)]:=by rfl) :
  PI X (.Tuple es x1 tpos) (.Call (.Name "enumerate" p) [.Call (.Name "zip" p') [a,b] [] pos'] [] pos) (aCH X.K k1 k2 ta):=by
 intro pins s σ H R I h
 refine Call_ (iU (u:=.type "enumerate") I hg hm (by decide +kernel) (PyProof.Rows.callWith_type1 ?_ hs3 rfl))
 rw [hs3]
 show wpAny _ _ (spliced ((false,eval (.Call (.Name "zip" p') [a,b] [] pos') X.env)::[])) _ _ s
 refine Calls.spliced_cons ?_
 refine Call_ (iU (u:=.type "zip") I hg2 hm2 (by decide +kernel) (PyProof.Rows.callWith_type1 (thn (ha pos' pins s σ H _ I h) fun us s1 hx9=>?_) (by rw [hs,hs2]) (by rw [hs2]; rfl)))
 obtain ⟨vs,H1,I1,r1,q1⟩:=hx9
 obtain ⟨l1,l2,xs,ys,rfl,hA,hB,q⟩:=q1
 obtain ⟨u1,u2,rfl,r1',r2'⟩:=mZ r1
 cases r1'
 cases r2'
 obtain ⟨its,rv,pa⟩:=I1.seqK hA
 obtain ⟨jts,rw',pb⟩:=I1.seqK hB
 refine callType_new PySem.F.called_zip (by decide) (PySem.F.typeCall_zip_2 _ _) (PySem.F.newCall_zip_2 _ _) (fun obj=>PySem.F.args_object_init_3 obj _ _) PySem.F.entry_zip_new (wY k1 k2 l1 l2 its.toArray jts.toArray) ⟨pa,pb,?_⟩
 have n1:(zh1 k1 s1.heap l1).objs.size=s1.heap.objs.size+1:=Bj ..
 have n2:(zh2 k1 k2 s1.heap l1 l2).objs.size=s1.heap.objs.size+2:=by rw [Bj,n1]
 have n3:(zh3 k1 k2 s1.heap l1 l2).objs.size=s1.heap.objs.size+3:=by rw [Bj,n2]
 have n4:(zh4 k1 k2 s1.heap l1 l2).objs.size=s1.heap.objs.size+4:=by rw [Bj,n3]
 have n5:(zh5 k1 k2 s1.heap l1 l2).objs.size=s1.heap.objs.size+5:=by rw [Bj,n4]
 have g5:IsZip (zh5 k1 k2 s1.heap l1 l2) (zh4 k1 k2 s1.heap l1 l2).objs.size (zh2 k1 k2 s1.heap l1 l2).objs.size (zh3 k1 k2 s1.heap l1 l2).objs.size .none:=Ag _ rfl
 have g4:IsPair (zh5 k1 k2 s1.heap l1 l2) (zh3 k1 k2 s1.heap l1 l2).objs.size .none .none:=Aa _ (Ag _ rfl)
 have g3:IsPair (zh5 k1 k2 s1.heap l1 l2) (zh2 k1 k2 s1.heap l1 l2).objs.size (.ref s1.heap.objs.size) (.ref (zh1 k1 s1.heap l1).objs.size):=Aa _ (Aa _ (Ag _ rfl))
 have g2:ItK k2 (zh5 k1 k2 s1.heap l1 l2) (zh1 k1 s1.heap l1).objs.size l2 0:=(ItK.new k2 (zh1 k1 s1.heap l1) l2).at fun o e=>Aa _ (Aa _ (Aa _ e))
 have g1:ItK k1 (zh5 k1 k2 s1.heap l1 l2) s1.heap.objs.size l1 0:=(ItK.new k1 s1.heap l1).at fun o e=>Aa _ (Aa _ (Aa _ (Aa _ e)))
 have kp:∀ c o,s1.heap.get? c=some o->(zh5 k1 k2 s1.heap l1 l2).get? c=some o:=fun c o e=>Aa _ (Aa _ (Aa _ (Aa _ (Aa _ e))))
 refine ⟨⟨_,g5,rfl⟩,Calls.spliced_nil ?_⟩
 rw [n1,n2,n3,n4] at *
 generalize zh5 k1 k2 s1.heap l1 l2=hz5 at *
 refine callType_new PySem.F.called_enumerate (by decide) (PySem.F.typeCall_enumerate_1 _) (PySem.F.newCall_enumerate_1 _) (fun obj=>PySem.F.args_object_init_2 obj _) PySem.F.entry_enumerate_new (sY (s1.heap.objs.size+4) (s1.heap.objs.size+2) (s1.heap.objs.size+3)) ⟨g5,?_⟩
 have ge:IsEnum (hz5.push { cls:=.type "enumerate",data:=.fields #[.none,.bool false,.ref (s1.heap.objs.size+4),rawInt 0,.none,.none] }) hz5.objs.size (s1.heap.objs.size+4) 0 .none:=Ag _ rfl
 have kp6:∀ c o,hz5.get? c=some o->(hz5.push { cls:=.type "enumerate",data:=.fields #[.none,.bool false,.ref (s1.heap.objs.size+4),rawInt 0,.none,.none] }).get? c=some o:=fun c o e=>Aa _ e
 rw [n5] at ge
 show (∃ _,_)/\_
 rw [n5]
 generalize hz5.push { cls:=.type "enumerate",data:=.fields #[.none,.bool false,.ref (s1.heap.objs.size+4),rawInt 0,.none,.none] }=h6 at ge kp6 ⊢
 refine ⟨⟨_,ge,rfl⟩,wpAny_pyIter_enum ge ?_⟩
 have I2:Inv X pins σ H1 { s1 with heap:=h6 }:=I1.kept (t':=s1.toks) fun c o e=>kp6 c o (kp c o e)
 have d:∀ i j:Nat,i≠j->s1.heap.objs.size+i≠s1.heap.objs.size+j:=fun i j h=>by omega
 refine ⟨s1.heap.objs.size+5,[s1.heap.objs.size+5,s1.heap.objs.size+4,s1.heap.objs.size+2,s1.heap.objs.size+3,s1.heap.objs.size,s1.heap.objs.size+1],_,_,H1,rfl,I2,vG k1 k2 l1 l2 _ _ _ _ _ _ ?_ ⟨d 5 4 (by decide),d 5 2 (by decide),d 5 3 (by decide),d 5 0 (by decide),d 5 1 (by decide)⟩,⟨⟨_,ge⟩,⟨⟨_,_,.inl rfl,kp6 _ _ g5⟩,kp6 _ _ g3,⟨_,_,kp6 _ _ g4⟩⟩,g1.at fun o e=>kp6 _ _ e,g2.at fun o e=>kp6 _ _ e⟩,fun c hc=>?_,q⟩
 ·intro m1 m2 h1 h2
  exact ⟨d 2 4 (by decide),d 3 4 (by decide),d 0 4 (by decide),d 1 4 (by decide),d 2 3 (by decide),d 2 0 (by decide),d 2 1 (by decide),d 3 0 (by decide),d 3 1 (by decide),d 0 1 (by decide),
   h1 _ (by simp),h1 _ (by simp),h1 _ (by simp),h1 _ (by simp),h2 _ (by simp),h2 _ (by simp),h2 _ (by simp),h2 _ (by simp)⟩
 ·have hc':s1.heap.objs.size<=c:=by
   simp only [Am,Ap,or_false] at hc
   rcases hc with r | r | r | r | r | r <;> rw [r]
   all_goals first | exact Ai _ | exact Cy _ _
  exact I1.fpOk hc' (I1.hok.fresh hc')
end
theorem pG {K:PySem.W.Frag} {k1 k2:Sk} {a b:Addr} {xs ys:List V} {g:TG} {tb:TS} {D:Ends} {σ:St} {H:Hp} (Pv:Nat->St->Hp->Prop) (heq:xs.length=ys.length) (h0:Pv 0 σ H) (hl:∀ i σ H,i<=xs.length->Pv i σ H->SqK k1 K H a xs/\SqK k2 K H b ys)
  (hs:∀ i x y p q σ H,xs[i]?=some x->ys[i]?=some y->Pv i σ H->H p=none->H q=none->q≠p->g (.ref q) σ (upd (upd H p (.tup [x,y])) q (.tup [.int (i:Nat),.ref p])) fun σ2 H2=>tb { D with nx:=Pv (i+1),ct:=Pv (i+1),bk:=D.nx } σ2 H2) (hd:∀ σ H,Pv xs.length σ H->D.nx σ H) :
  ∃ W:Nat->Nat->St->Hp->Prop,(∃ m,W 0 m σ H)/\∀ i m σ H,W i m σ H ->
   ((aCG K k1 k2 a b).stop i H/\D.nx σ H)∨((aCG K k1 k2 a b).go i H/\∃ N:St->Hp->Prop,(∀ σ' H',N σ' H'->∃ m',m' < m/\W (i+1) m' σ' H')/\∀ x H',(aCG K k1 k2 a b).yld i H x H'->g x σ H' fun σ2 H2=>tb { D with nx:=N,ct:=N,bk:=D.nx } σ2 H2):=by
 refine ⟨fun i m σ H=>m=xs.length - i/\i<=xs.length/\Pv i σ H,⟨xs.length,by simp,Bo _,h0⟩,?_⟩
 rintro i m σ H ⟨rfl,hi,p⟩
 obtain ⟨q1,q2⟩:=hl i σ H hi p
 by_cases hlt:i < xs.length
 ·refine .inr ⟨⟨xs,ys,xs[i],ys[i]'(by omega),q1,q2,Ae hlt,Ae (by omega)⟩,Pv (i+1),fun σ' H' p'=>⟨xs.length - (i+1),by omega,rfl,hlt,p'⟩,fun x H' y=>?_⟩
  obtain ⟨p1,q1',hp1,hq1,hne,rfl,hy⟩:=y
  obtain ⟨x,y,h1,h2,rfl⟩:=hy xs ys q1 q2
  exact hs i x y p1 q1' σ H h1 h2 p hp1 hq1 hne
 ·have e:i=xs.length:=by omega
  subst e
  exact .inl ⟨⟨xs,ys,q1,q2,by rw [<- heq,Gw]⟩,hd σ H p⟩
end L2
namespace L2
open PySem
section
variable {X:Cx} {K:PySem.W.Frag} {pos:Pos}
theorem kIn (hK:X.K=K):OpR X (compareOp .In) (rIn K false):=by subst hK; exact lE
end
section
variable {α β γ δ ε ζ η θ ι κ:Type}
end
end L2
namespace L2
open PySem PySem.Spec PyProof.Rows
def oV:Option Int->V
 | some i=>.int i
 | none=>.non
section
variable {X:Cx}
theorem xL:∀ {os:List (Option Int)} {us:List Value},bB (os.map oV) us->∀ y∈us,y=.none∨∃ m t,y=.int m t
 | [],_,r,y,hy=>by cases r; cases hy
 | o::os,us,r,y,hy=>by
  cases r with
  | cons r1 r2 =>
   rcases Am.mp hy with rfl | hy
   ·cases o with
    | none=>exact .inl r1
    | some m=>obtain ⟨t,rfl⟩:=r1; exact .inr ⟨m,t,rfl⟩
   ·exact xL r2 y hy
theorem tT (n:Int):∀ {os:List (Option Int)} {us:List Value},bB (os.map oV) us->us.countP (isInt n)=os.count (some n)
 | [],_,r=>by cases r; rfl
 | o::os,us,r=>by
  cases r with
  | cons r1 r2 =>
   rw [Fo,Ca,tT n r2]
   cases o with
   | none=>rw [show (_:Value)=.none from r1]; rfl
   | some m =>
    obtain ⟨t,rfl⟩:=r1
    by_cases e:m=n
    ·subst e; simp [isInt]
    ·have e1:((some m:Option Int)==some n)=false:=by simpa using e
     have e2:isInt n (.int m t)=false:=by simpa [isInt] using e
     rw [e1,e2]
theorem aBv:MtR X "tuple.count" (fun x vs H Q=>∃ (a:Addr) (os:List (Option Int)) (n:Int),x=.ref a/\vs = [.int n]/\SqT X.K H a (os.map oV)/\Q (.int (os.count (some n):Nat)) H):=by
 intro pins s σ H x v vs us Q I rx r h
 obtain ⟨a,os,n,rfl,rfl,ha,q⟩:=h
 obtain ⟨u,rfl,t,rfl⟩:=eN r
 cases rx
 obtain ⟨its,rv,⟨⟨cls,dd,data,sl⟩,ho,hc,k,hd⟩,hzz⟩:=I.tuple ha
 simp only at hc hd
 subst hc hd
 refine call_meets PySem.F.slot_tuple_count ⟨_,ho,rfl⟩ PySem.F.entry_tuple_count (PySem.F.args_tuple_count_2 _ _) (SeqAt.tuple_countAt a its.toArray k dd sl (.int n t) (isInt n)) ⟨ho,fun y hy=>?_,?_⟩
 ·rcases xL rv y (by simpa using hy) with rfl | ⟨m,t',rfl⟩
  ·exact SeqAt.EqAt.none_int n t
  ·exact SeqAt.EqAt.int_int m t' n t
 ·have e:(its.toArray.toList.countP (isInt n))=os.count (some n):=by
   simp only [Cg]
   exact tT n rv
  rw [e]
  exact ⟨.int _,H,I.tok _,⟨_,rfl⟩,q⟩
theorem zK {K:PySem.W.Frag} (hK:X.K=K):MtR X "tuple.count" (fun x vs H Q=>∃ (a:Addr) (os:List (Option Int)) (n:Int),x=.ref a/\vs = [.int n]/\SqT K H a (os.map oV)/\Q (.int (os.count (some n):Nat)) H):=by subst hK; exact aBv
end
section
variable {K:PySem.W.Frag} {own:Nat} {fr:List Nat} {g:TG} {te:TE} {σ:St} {H:Hp} {Qf:Hp->List V->Prop}
theorem aCI {k:Sk} {a:Addr} {xs vs:List V} (SH:St->Prop) (hn:xs.length<=1000) (hl:vs.length=xs.length) (ha:∀ H',aE H H'->SqK k K H' a xs) (hσ:SH (blk own fr σ))
  (hs:∀ (i:Nat) x v p σ H1,xs[i]?=some x->vs[i]?=some v->H1 p=none->SH σ->aE H H1->∀ Q:V->St->Hp->Prop,(∀ σ2 H4,SH σ2->aE H1 H4->Q v σ2 H4)->g (.ref p) σ (upd H1 p (.tup [.int (i:Nat),x])) fun σ2 H2=>te σ2 H2 fun y H4=>Q y σ2 H4)
  (hd:∀ H',aE H H'->Qf H' vs) :
  ∃ W:Nat->Nat->List V->St->Hp->Prop,(∃ m,W 0 m [] (blk own fr σ) H)/\∀ i m ys σ' H,W i m ys σ' H ->
   ((Ite K k a).stop i H/\Qf H ys) ∨
   ((Ite K k a).go i H/\∃ N:List V->St->Hp->Prop,(∀ ys' σ2 H2,N ys' σ2 H2->∃ m',m' < m/\W (i+1) m' ys' σ2 H2) /\
    ∀ x H',(Ite K k a).yld i H x H'->g x σ' H' fun σ2 H2=>wQ σ2 H2 fun b H3=>if b=true then te σ2 H3 fun y H4=>ys.length < sizeLine/\N (ys++[y]) σ2 H4 else N ys σ2 H3):=by
 refine pV SH hn hl hσ (fun H' s=>⟨xs,ha H' s,rfl⟩) (fun i H' hi s=>⟨xs,xs[i],ha H' s,Ae hi⟩) (fun i v x σ H1 H2 hi hv sh s y Q k=>?_) hd
 obtain ⟨q,hq,rfl,hy⟩:=y
 obtain ⟨x,h1,rfl⟩:=hy xs (ha H1 s)
 exact hs i x v q σ H1 h1 hv hq sh s Q k
end
theorem aCJ {xs:Array Nat} {j:Nat} (hs:xs.toList.Pairwise (· < ·)):∀ (fuel lo hi:Nat),hi - lo<=fuel->lo<=hi->hi<=xs.size->(∀ i v,i < lo->xs[i]?=some v->v < j)->(∀ i v,hi<=i->xs[i]?=some v->j<=v) ->
  SetTable.below.go xs j fuel lo hi<=xs.size/\(∀ i v,i < SetTable.below.go xs j fuel lo hi->xs[i]?=some v->v < j)/\(∀ i v,SetTable.below.go xs j fuel lo hi<=i->xs[i]?=some v->j<=v):=by
 have mono:∀ i k u v,i < k->xs[i]?=some u->xs[k]?=some v->u < v:=fun i k u v hik hu hv=>by
  rw [<- Array.getElem?_toList] at hu hv
  obtain ⟨h1,e1⟩:=Ad.mp hu
  obtain ⟨h2,e2⟩:=Ad.mp hv
  rw [<- e1,<- e2]
  exact Dw.mp hs i k h1 h2 hik
 intro fuel
 induction fuel with
 | zero =>
  intro lo hi h1 h2 h3 h4 h5
  have e:hi=lo:=by omega
  subst e
  exact ⟨h3,h4,h5⟩
 | succ fuel ih =>
  intro lo hi h1 h2 h3 h4 h5
  have e:SetTable.below.go xs j (fuel+1) lo hi=if lo < hi then (if xs.getD ((lo+hi) / 2) j < j then SetTable.below.go xs j fuel ((lo+hi) / 2+1) hi else SetTable.below.go xs j fuel lo ((lo+hi) / 2)) else lo:=rfl
  rw [e]
  by_cases hlt:lo < hi
  ·rw [if_pos hlt]
   have hm:(lo+hi) / 2 < xs.size:=by omega
   have hg:xs[(lo+hi) / 2]?=some (xs.getD ((lo+hi) / 2) j):=by
    rw [Array.getD_eq_getD_getElem?,Array.getElem?_eq_getElem hm]; rfl
   by_cases hc:xs.getD ((lo+hi) / 2) j < j
   ·rw [if_pos hc]
    refine ih _ _ (by omega) (by omega) h3 (fun i v hi' hv=>?_) h5
    rcases Gx i ((lo+hi) / 2) with z | z
    ·exact Fy (mono _ _ _ _ z hv hg) hc
    ·have:i=(lo+hi) / 2:=by omega
     subst this
     rw [hg] at hv
     rw [<- Option.some.inj hv]; exact hc
   ·rw [if_neg hc]
    refine ih _ _ (by omega) (by omega) (by omega) h4 (fun i v hi' hv=>?_)
    rcases Gx ((lo+hi) / 2) i with z | z
    ·have:=mono _ _ _ _ z hg hv
     omega
    ·have:i=(lo+hi) / 2:=by omega
     subst this
     rw [hg] at hv
     rw [<- Option.some.inj hv]; omega
  ·rw [if_neg hlt]
   have e:hi=lo:=by omega
   subst e
   exact ⟨h3,h4,h5⟩
theorem tU {xs:Array Nat} (hs:xs.toList.Pairwise (· < ·)) (j:Nat):SetTable.below xs j<=xs.size/\(∀ i v,i < SetTable.below xs j->xs[i]?=some v->v < j)/\(∀ i v,SetTable.below xs j<=i->xs[i]?=some v->j<=v) :=
 aCJ hs xs.size 0 xs.size (by omega) (Bo _) (Ai _) (fun i v h=>absurd h (Db _)) (fun i v h e=>by rw [Array.getElem?_eq_none h] at e; cases e)
def lY (xs:Array Nat) (i:Nat):Nat:=if i=0 then 0 else (xs[i - 1]?).getD 0+1
theorem zL {xs:Array Nat} (hs:xs.toList.Pairwise (· < ·)) {i:Nat} (hi:i<=xs.size):SetTable.below xs (lY xs i)=i:=by
 obtain ⟨h1,h2,h3⟩:=tU hs (lY xs i)
 have mono:∀ i k u v,i < k->xs[i]?=some u->xs[k]?=some v->u < v:=fun i k u v hik hu hv=>by
  rw [<- Array.getElem?_toList] at hu hv
  obtain ⟨h1,e1⟩:=Ad.mp hu
  obtain ⟨h2,e2⟩:=Ad.mp hv
  rw [<- e1,<- e2]
  exact Dw.mp hs i k h1 h2 hik
 rcases Nat.lt_trichotomy (SetTable.below xs (lY xs i)) i with z | z | z
 ·exfalso
  have hlt:i - 1 < xs.size:=by omega
  have e:xs[i - 1]?=some xs[i - 1]:=Array.getElem?_eq_getElem hlt
  have:=h3 (i - 1) _ (by omega) e
  unfold lY at this
  rw [if_neg (by omega),e] at this
  have:xs[i - 1]+1<=xs[i - 1]:=this
  omega
 ·exact z
 ·exfalso
  have hlt:i < xs.size:=by omega
  have e:xs[i]?=some xs[i]:=Array.getElem?_eq_getElem hlt
  have:=h2 i _ z e
  unfold lY at this
  by_cases h0:i=0
  ·rw [if_pos h0] at this; omega
  ·have hlt':i - 1 < xs.size:=by omega
   have e':xs[i - 1]?=some xs[i - 1]:=Array.getElem?_eq_getElem hlt'
   rw [if_neg h0,e'] at this
   have this:xs[i] < xs[i - 1]+1:=this
   have:=mono (i - 1) i _ _ (by omega) e' e
   omega
def lpN (mask:Nat):Nat->Nat×Nat->Nat×Nat
 | 0,p=>p
 | n+1,p=>lpN mask n (SetTable.leap mask p.1 p.2)
theorem vH (mask:Nat):∀ (a b:Nat) (p:Nat×Nat),lpN mask (a+b) p=lpN mask b (lpN mask a p)
 | 0,b,p=>by rw [Gy]; rfl
 | a+1,b,p=>by
  rw [show a+1+b=(a+b)+1 by omega]
  exact vH mask a b _
theorem xM (mask:Nat):∀ (k:Nat) (p:Nat×Nat),p.2 < 32^k->p.1<=mask->∃ i,i<=mask/\lpN mask k p=(i,0)
 | 0,p,h,hi=>⟨p.1,hi,by
   obtain ⟨a,b⟩:=p
   have:b=0:=by have h:b < 32^0:=h; omega
   subst this; rfl⟩
 | k+1,p,h,hi=>by
  refine xM mask k _ ?_ ?_
  ·show p.2 / 32 < 32^k
   rw [Nat.pow_succ] at h
   omega
  ·show (p.1*5+1+p.2 / 32) % (mask+1)<=mask
   have:=Gu (p.1*5+1+p.2 / 32) (show 0 < mask+1 by omega)
   omega
theorem lg7:∀ i j:Fin 8,∃ n:Fin 8,(lpN 7 n.val (i.val,0)).1=j.val:=by decide +kernel
theorem aGp:∀ i j:Fin 32,∃ n:Fin 32,(lpN 31 n.val (i.val,0)).1=j.val:=by decide +kernel
theorem aEs {mask:Nat} (hm:mask=7∨mask=31) {i pt j:Nat} (hi:i<=mask) (hp:pt < 2^64) (hj:j<=mask):∃ n,n<=mask+13/\(lpN mask n (i,pt)).1=j:=by
 obtain ⟨i',hi',e⟩:=xM mask 13 (i,pt) (show pt < 32^13 by omega) hi
 rcases hm with rfl | rfl
 ·obtain ⟨n,hn⟩:=lg7 ⟨i',by omega⟩ ⟨j,by omega⟩
  exact ⟨13+n.val,by have:=n.isLt; omega,by rw [vH,e]; exact hn⟩
 ·obtain ⟨n,hn⟩:=aGp ⟨i',by omega⟩ ⟨j,by omega⟩
  exact ⟨13+n.val,by have:=n.isLt; omega,by rw [vH,e]; exact hn⟩
def vI (t:SetTable):Nat->SetTable.Probe->SetTable.Probe
 | 0,p=>p
 | n+1,p=>vI t n (t.advance p)
theorem xN (t:SetTable):∀ (a b:Nat) (p:SetTable.Probe),vI t (a+b) p=vI t b (vI t a p)
 | 0,b,p=>by rw [Gy]; rfl
 | a+1,b,p=>by
  rw [show a+1+b=(a+b)+1 by omega]
  exact xN t a b _
theorem aBw (t:SetTable) (p:SetTable.Probe):(t.advance p).dummy=p.dummy:=by
 unfold SetTable.advance
 split <;> rfl
theorem vJ (j:Nat):SetTable.has #[] j=false:=rfl
theorem qZ {t:SetTable} (hd:t.dummies = #[]) (j:Nat):t.slot j=.empty∨∃ i,t.slot j=.live i:=by
 unfold SetTable.slot
 dsimp only
 by_cases h:(t.place[SetTable.below t.place j]?==some j)=true
 ·rw [if_pos h]; exact .inr ⟨_,rfl⟩
 ·rw [if_neg h,hd,vJ]
  exact .inl (if_neg (by decide))
theorem xO {t:SetTable} (hd:t.dummies = #[]) {hashAt:Nat->Int} {h:Int} (hh:∀ i,(hashAt i==h)=false):∀ (fuel:Nat) (p:SetTable.Probe) (n:Nat),n < fuel->p.dummy=none->t.slot (vI t n p).j=.empty->∃ j,SetTable.probe.go t hashAt h fuel p=some (.empty j none)/\t.slot j=.empty
 | 0,p,n,hn,_,_=>absurd hn (Db _)
 | fuel+1,p,n,hn,hp,hs=>by
  have e:SetTable.probe.go t hashAt h (fuel+1) p=(match t.slot p.j with
   | .empty=>some (.empty p.j p.dummy)
   | .dummy=>SetTable.probe.go t hashAt h fuel (t.advance { p with dummy:=some p.j })
   | .live i=>if (hashAt i==h)=true then some (.candidate p.j i (t.advance p)) else SetTable.probe.go t hashAt h fuel (t.advance p)):=rfl
  rcases qZ hd p.j with q | ⟨i,q⟩
  ·refine ⟨p.j,?_,q⟩
   rw [e,q,hp]
  ·rw [e,q]
   simp only [hh,Be,if_false]
   cases n with
   | zero=>rw [show vI t 0 p=p from rfl,q] at hs; cases hs
   | succ n=>exact xO hd hh fuel (t.advance p) n (by omega) (by rw [aBw]; exact hp) hs
def StP (mask:Nat) (p:Nat×Nat):SetTable.Probe:={ j:=p.1,more:=SetTable.runEnd mask p.1 - p.1,i:=p.1,perturb:=p.2,dummy:=none }
theorem aAE (t:SetTable) (i pt:Nat):∀ (m j:Nat),vI t (m+1) { j:=j,more:=m,i:=i,perturb:=pt,dummy:=none }=StP t.mask (SetTable.leap t.mask i pt)
 | 0,j=>rfl
 | m+1,j=>aAE t i pt m (j+1)
theorem aE2 (mask i:Nat):SetTable.runEnd mask i - i<=9:=by
 unfold SetTable.runEnd
 split <;> omega
theorem tV (t:SetTable):∀ (k:Nat) (p:Nat×Nat),∃ n,n<=10*k/\vI t n (StP t.mask p)=StP t.mask (lpN t.mask k p)
 | 0,p=>⟨0,Ai _,rfl⟩
 | k+1,p=>by
  obtain ⟨n,hn,e⟩:=tV t k (SetTable.leap t.mask p.1 p.2)
  refine ⟨(SetTable.runEnd t.mask p.1 - p.1+1)+n,by have:=aE2 t.mask p.1; omega,?_⟩
  rw [xN]
  have e2:vI t (SetTable.runEnd t.mask p.1 - p.1+1) (StP t.mask p)=StP t.mask (SetTable.leap t.mask p.1 p.2):=aAE t p.1 p.2 _ _
  rw [e2]
  exact e
theorem aAF (h:Int):SetTable.bits h < 2^64:=by
 unfold SetTable.bits
 have h1:=Cl h (show (0:Int) < 2^64 by decide)
 have h2:=Cr h (show (2^64:Int)≠0 by decide)
 omega
theorem aDT {t:SetTable} (hm:t.mask=7∨t.mask=31) (hd:t.dummies = #[]) {j0:Nat} (hj:j0<=t.mask) (hs:t.slot j0=.empty) (h:Int):∃ j,t.freeSlot h=some (j,false)/\t.slot j=.empty:=by
 have hlt:=Gu (SetTable.bits h) (show 0 < t.mask+1 by omega)
 obtain ⟨k,hk,e⟩:=aEs hm (i:=SetTable.bits h % (t.mask+1)) (pt:=SetTable.bits h) (by omega) (aAF h) hj
 obtain ⟨n,hn,e2⟩:=tV t k (SetTable.bits h % (t.mask+1),SetTable.bits h)
 obtain ⟨j,e3,e4⟩:=xO hd (hashAt:=fun _=>h+1) (h:=h) (fun i=>beq_eq_false_iff_ne.mpr (by omega)) (10*SetTable.turns t.mask) (StP t.mask (SetTable.bits h % (t.mask+1),SetTable.bits h)) n (by unfold SetTable.turns; omega) rfl (by
  rw [e2]
  show t.slot (lpN t.mask k (SetTable.bits h % (t.mask+1),SetTable.bits h)).1=_
  rw [e]; exact hs)
 refine ⟨j,?_,e4⟩
 have e5:t.probe (fun x=>h+1) h (t.probeStart h)=some (.empty j none):=e3
 unfold SetTable.freeSlot
 rw [e5]
 rfl
theorem gap:∀ (l:List Nat) (b:Nat),l.Pairwise (· < ·)->(∀ x∈l,b<=x)->∃ j,b<=j/\j<=b+l.length/\j∉l
 | [],b,_,_=>⟨b,Ai _,Ai _,Ap⟩
 | x::r,b,h,hb=>by
  obtain ⟨h1,h2⟩:=Bt.mp h
  by_cases z:x=b
  ·obtain ⟨j,j1,j2,j3⟩:=gap r (b+1) h2 fun y hy=>by have:=h1 y hy; omega
   refine ⟨j,by omega,by rw [Bg]; omega,fun m=>?_⟩
   rcases Am.mp m with m | m
   ·omega
   ·exact j3 m
  ·refine ⟨b,Ai _,by omega,fun m=>?_⟩
   have hx:=hb x (Ao ..)
   rcases Am.mp m with m | m
   ·exact z m.symm
   ·have:=h1 b m; omega
theorem zM {t:SetTable} (hd:t.dummies = #[]) {j:Nat} (h:j∉t.place.toList):t.slot j=.empty:=by
 rcases qZ hd j with q | ⟨i,q⟩
 ·exact q
 ·exfalso
  unfold SetTable.slot at q
  dsimp only at q
  by_cases z:(t.place[SetTable.below t.place j]?==some j)=true
  ·have z':=eq_of_beq z
   rw [<- Array.getElem?_toList] at z'
   exact h (Ah z')
  ·rw [if_neg z,hd,vJ] at q
   simp at q
theorem aCK {t:SetTable} {j:Nat} (h:t.slot j=.empty):t.place[SetTable.below t.place j]?≠some j:=fun z=>by
 unfold SetTable.slot at h
 dsimp only at h
 rw [if_pos (by rw [z]; exact beq_self_eq_true _)] at h
 cases h
theorem iR {α:Type} (xs:Array α) (p:Nat) (x:α):(SetTable.insertAt xs p x).toList=xs.toList.take p++x::xs.toList.drop p:=by
 unfold SetTable.insertAt
 rw [Array.toList_append,Array.toList_push,Array.toList_extract,Array.toList_extract]
 simp only [List.extract_eq_drop_take,Fc,Gv]
 rw [El]
 congr 1
 rw [Fz]
 congr 1
 rw [Bi]
 rw [Cn,Array.length_toList]
 exact Ai _
theorem sZ {xs:Array Nat} (hs:xs.toList.Pairwise (· < ·)) {j:Nat} (h:xs[SetTable.below xs j]?≠some j):(SetTable.insertAt xs (SetTable.below xs j) j).toList.Pairwise (· < ·):=by
 obtain ⟨h1,h2,h3⟩:=tU hs j
 rw [iR]
 have hgt:∀ y∈xs.toList.drop (SetTable.below xs j),j < y:=fun y hy=>by
  obtain ⟨i,hi⟩:=Bb.mp hy
  rw [List.getElem?_drop,Array.getElem?_toList] at hi
  have hle:=h3 _ _ (Cy _ _) hi
  rcases Gx j y with z | z
  ·exact z
  ·exfalso
   have e:y=j:=by omega
   subst e
   cases i with
   | zero=>exact h hi
   | succ i =>
    have hlt:SetTable.below xs y < xs.size:=by
     have:=(Array.getElem?_eq_some_iff.mp hi).1
     omega
    have e1:xs[SetTable.below xs y]?=some xs[SetTable.below xs y]:=Array.getElem?_eq_getElem hlt
    have h4:=h3 _ _ (Ai _) e1
    have h5:xs[SetTable.below xs y] < y:=by
     rw [<- Array.getElem?_toList] at hi e1
     obtain ⟨q1,r1⟩:=Ad.mp e1
     obtain ⟨q2,r2⟩:=Ad.mp hi
     have:=Dw.mp hs _ _ q1 q2 (by omega)
     rw [r1,r2] at this
     exact this
    omega
 have hlt:∀ y∈xs.toList.take (SetTable.below xs j),y < j:=fun y hy=>by
  obtain ⟨i,hi⟩:=Bb.mp hy
  have hi2:i < SetTable.below xs j:=by
   have:=(Ad.mp hi).1
   rw [Ax] at this
   omega
  rw [Fh hi2,Array.getElem?_toList] at hi
  exact h2 _ _ hi2 hi
 refine Gg.mpr ⟨hs.sublist (List.take_sublist _ _),Bt.mpr ⟨hgt,hs.sublist (List.drop_sublist _ _)⟩,fun a ha b hb=>?_⟩
 rcases Am.mp hb with rfl | hb
 ·exact hlt a ha
 ·exact Fy (hlt a ha) (hgt b hb)
structure Tb (L:Bool) (t:SetTable) (n m:Nat):Prop where
 mask:(t.mask=7/\n<=m)∨(t.mask=31/\n<=12)
 dums:t.dummies = #[]
 plain:t.plain=true
 led:t.led=L
 size:t.place.size=n
 rise:t.place.toList.Pairwise (· < ·)
theorem Tb.fits {L:Bool} {t:SetTable} {n m:Nat} (T:Tb L t n m) (hm:m<=6):t.fits n=true:=by
 unfold SetTable.fits SetTable.fill
 rw [T.size,T.dums]
 have:n+(#[]:Array Nat).size<=t.mask:=by
  show n+0<=_
  rcases T.mask with ⟨a,b⟩ | ⟨a,b⟩ <;> omega
 rw [decide_eq_true this,beq_self_eq_true]
 rfl
theorem Tb.lay {L:Bool} {t:SetTable} {es:Array (Int×Value)} (T:Tb L t es.size 4) (hn:es.size<=11) (h:Int) (x:Value) :
  ∃ es' t',layNew t es h x=(es',t',false,false)/\es'.toList.Perm ((h,x)::es.toList)/\Tb L t' es'.size 5/\es'.size=es.size+1:=by
 have hm:t.mask=7∨t.mask=31:=by rcases T.mask with ⟨a,_⟩ | ⟨a,_⟩ <;> simp [a]
 obtain ⟨j0,_,j2,j3⟩:=gap t.place.toList 0 T.rise fun x _=>Bo _
 have hj0:j0<=t.mask:=by
  rw [Array.length_toList,T.size] at j2
  rcases T.mask with ⟨a,b⟩ | ⟨a,b⟩ <;> omega
 obtain ⟨j,ej,hj⟩:=aDT hm T.dums hj0 (zM T.dums j3) h
 have esz:(SetTable.insertAt es (SetTable.below t.place j) (h,x)).size=es.size+1:=by
  rw [<- Array.length_toList,iR,Aq,Bg,Ax,Cn,Array.length_toList]
  omega
 have eput:t.put j=({ t with place:=SetTable.insertAt t.place (SetTable.below t.place j) j,dummies:=#[] },SetTable.below t.place j):=by
  unfold SetTable.put
  dsimp only
  rw [T.dums,vJ]
  rfl
 have T':Tb L { t with place:=SetTable.insertAt t.place (SetTable.below t.place j) j,dummies:=#[] } (es.size+1) 5:=by
  refine ⟨?_,rfl,T.plain,T.led,?_,sZ T.rise (aCK hj)⟩
  ·rcases T.mask with ⟨a,b⟩ | ⟨a,b⟩
   ·exact .inl ⟨a,by omega⟩
   ·exact .inr ⟨a,by omega⟩
  ·show (SetTable.insertAt t.place _ j).size=_
   rw [<- Array.length_toList,iR,Aq,Bg,Ax,Cn,Array.length_toList,T.size]
   omega
 refine ⟨SetTable.insertAt es (SetTable.below t.place j) (h,x),_,?_,?_,by rw [esz]; exact T',esz⟩
 ·unfold layNew
  rw [ej]
  dsimp only
  rw [eput]
  dsimp only
  rw [esz]
  unfold SetTable.orStandIn
  rw [T'.fits (by decide)]
  rfl
 ·rw [iR]
  exact Fq.trans (List.Perm.cons _ (by rw [En]))
theorem aAG:∀ (l:List (Option Nat)),(l.filterMap id).length < l.length->∃ j:Nat,l[j]?=some none
 | [],h=>absurd h (Db _)
 | none::r,_=>⟨0,rfl⟩
 | some a::r,h=>by
  obtain ⟨j,hj⟩:=aAG r (by
   rw [Fj (f:=id) (a:=some a) (b:=a) rfl,Bg,Bg] at h
   omega)
  exact ⟨j+1,hj⟩
theorem aCL {l:List (Option Nat)} {j k:Nat} (h:l[j]?=some none):((l.set j (some k)).filterMap id).Perm (k::l.filterMap id):=by
 obtain ⟨hj,e⟩:=Ad.mp h
 have e1:l=l.take j++none::l.drop (j+1):=by
  rw [<- e,Ft hj,En]
 have e2:l.set j (some k)=l.take j++some k::l.drop (j+1):=by
  rw [Dd,if_pos hj]
 have e3:l.filterMap id=(l.take j).filterMap id++(l.drop (j+1)).filterMap id:=by
  have:=congrArg (List.filterMap id) e1
  rw [this,Ga,List.filterMap_cons_none (f:=id) rfl]
 rw [e2,e3,Ga,Fj (f:=id) (a:=some k) (b:=k) rfl]
 exact Fq
theorem aAH (mask:Nat) (owner:Array (Option Nat)):∀ (fuel i pt n:Nat),n < fuel->owner.getD (lpN mask n (i,pt)).1 (some 0)=none->∃ j,SetTable.layClean.free mask owner fuel i pt=some j/\owner.getD j (some 0)=none
 | 0,i,pt,n,h,_=>absurd h (Db _)
 | fuel+1,i,pt,n,h,hn=>by
  have e:SetTable.layClean.free mask owner (fuel+1) i pt=(match List.find? (fun k=>(owner.getD (i+k) (some 0)).isNone) (List.range (SetTable.runEnd mask i+1 - i)) with
   | some k=>some (i+k)
   | none=>SetTable.layClean.free mask owner fuel (SetTable.leap mask i pt).1 (SetTable.leap mask i pt).2):=rfl
  rw [e]
  cases q:List.find? (fun k=>(owner.getD (i+k) (some 0)).isNone) (List.range (SetTable.runEnd mask i+1 - i)) with
  | some k =>
   refine ⟨i+k,rfl,?_⟩
   have:=List.find?_some q
   exact Option.isNone_iff_eq_none.mp this
  | none =>
   cases n with
   | zero =>
    exfalso
    have hr:0∈List.range (SetTable.runEnd mask i+1 - i):=Br.mpr (by unfold SetTable.runEnd; split <;> omega)
    have:=List.find?_eq_none.mp q 0 hr
    rw [show lpN mask 0 (i,pt)=(i,pt) from rfl] at hn
    have hn:owner.getD i (some 0)=none:=hn
    rw [Nat.add_zero,hn] at this
    exact this rfl
   | succ n=>exact aAH mask owner fuel _ _ n (by omega) hn
theorem aDU {owner:Array (Option Nat)} {j:Nat} (h:owner.getD j (some 0)=none):owner.toList[j]?=some none:=by
 rw [Array.getD_eq_getD_getElem?] at h
 rw [Array.getElem?_toList]
 cases q:owner[j]? with
 | none=>rw [q] at h; cases h
 | some v=>rw [q] at h; rw [show v=none from h]
def vK (mask:Nat) (acc:Option (Array (Option Nat)×Nat)) (h:Int):Option (Array (Option Nat)×Nat):=do
 let x<-acc
 match x with
 | (owner, k) => do
   let j<-SetTable.layClean.free mask owner (SetTable.turns mask) (SetTable.bits h % (mask+1)) (SetTable.bits h)
   pure (owner.setIfInBounds j (some k),k+1)
theorem rA {mask:Nat} (hm:mask=7∨mask=31):∀ (hs:List Int) (owner:Array (Option Nat)) (k:Nat),owner.size=mask+1->(owner.toList.filterMap id).Perm (List.range k)->k+hs.length<=mask ->
  ∃ owner',hs.foldl (vK mask) (some (owner,k))=some (owner',k+hs.length)/\owner'.size=mask+1/\(owner'.toList.filterMap id).Perm (List.range (k+hs.length))
 | [],owner,k,h1,h2,_=>⟨owner,rfl,h1,h2⟩
 | h::hs,owner,k,h1,h2,h3=>by
  rw [Bg] at h3
  obtain ⟨j0,hj0⟩:=aAG owner.toList (by rw [h2.length_eq,Co,Array.length_toList]; omega)
  have hj0l:=(Ad.mp hj0).1
  rw [Array.length_toList] at hj0l
  have hlt:=Gu (SetTable.bits h) (show 0 < mask+1 by omega)
  obtain ⟨n,hn,e⟩:=aEs hm (i:=SetTable.bits h % (mask+1)) (pt:=SetTable.bits h) (j:=j0) (by omega) (aAF h) (by omega)
  obtain ⟨j,ej,hj⟩:=aAH mask owner (SetTable.turns mask) (SetTable.bits h % (mask+1)) (SetTable.bits h) n (by unfold SetTable.turns; omega) (by
   rw [e,Array.getD_eq_getD_getElem?,<- Array.getElem?_toList,hj0]; rfl)
  have hjl:=aDU hj
  have es:vK mask (some (owner,k)) h=some (owner.setIfInBounds j (some k),k+1):=by
   show (do let j<-SetTable.layClean.free mask owner (SetTable.turns mask) (SetTable.bits h % (mask+1)) (SetTable.bits h); pure (owner.setIfInBounds j (some k),k+1))=_
   rw [ej]; rfl
  have hp:((owner.setIfInBounds j (some k)).toList.filterMap id).Perm (List.range (k+1)):=by
   rw [Array.toList_setIfInBounds]
   refine (aCL hjl).trans ?_
   rw [Gb]
   exact (List.Perm.cons _ h2).trans (List.perm_append_singleton _ _).symm
  obtain ⟨o',r1,r2,r3⟩:=rA hm hs (owner.setIfInBounds j (some k)) (k+1) (by rw [Array.size_setIfInBounds]; exact h1) hp (by omega)
  refine ⟨o',?_,r2,?_⟩
  ·rw [List.foldl_cons,es,r1,Bg]
   congr 2; omega
  ·rw [Bg,show k+(hs.length+1)=k+1+hs.length by omega]; exact r3
theorem zN (owner:Array (Option Nat)):(List.range owner.size).map (fun j=>owner.getD j none)=owner.toList:=by
 apply Dh
 intro i
 rw [Af]
 by_cases h:i < owner.size
 ·rw [Dc h,Array.getElem?_toList,Array.getElem?_eq_getElem h]
  simp [h]
 ·rw [Ch (by rw [Co]; omega),Ch (by rw [Array.length_toList]; omega)]; rfl
theorem aDV {mask:Nat} (hm:mask=7∨mask=31) (fi mo:Nat) (L pl:Bool) (hs:Array Int) (hn:hs.size<=mask):∃ t order,SetTable.laid mask fi mo L pl hs=some (t,order)/\t.mask=mask/\t.dummies = #[]/\t.plain=pl/\t.led=L/\t.place.size=hs.size/\t.place.toList.Pairwise (· < ·)/\order.toList.Perm (List.range hs.size):=by
 obtain ⟨owner,e,hsz,hp⟩:=rA hm hs.toList (Array.replicate (mask+1) none) 0 (by rw [Array.size_replicate]) (by rw [Array.toList_replicate,List.filterMap_replicate_of_none rfl]; exact List.Perm.refl _) (by rw [Array.length_toList]; omega)
 rw [Gy,Array.length_toList] at e hp
 have ec:SetTable.layClean mask hs=some owner:=by
  have e2:SetTable.layClean mask hs=Option.map (fun x=>x.1) (Array.foldl (vK mask) (some (Array.replicate (mask+1) none,0)) hs):=rfl
  rw [e2,<- Array.foldl_toList,e]; rfl
 have e1:SetTable.laid mask fi mo L pl hs=some ({ mask:=mask,place:=(((List.range (mask+1)).filterMap fun j=>Option.map (fun x=>(j,x)) (owner.getD j none)).map (·.1)).toArray,dummies:=#[],finger:=fi,led:=L,moves:=mo,plain:=pl },(((List.range (mask+1)).filterMap fun j=>Option.map (fun x=>(j,x)) (owner.getD j none)).map (·.2)).toArray):=by
  unfold SetTable.laid
  rw [ec]; rfl
 have eo:(((List.range (mask+1)).filterMap fun j=>Option.map (fun x=>(j,x)) (owner.getD j none)).map (·.2))=owner.toList.filterMap id:=by
  rw [Gq,<- zN,Dq,hsz]
  congr 1
  funext j
  show Option.map _ (Option.map _ _)=owner.getD j none
  cases owner.getD j none <;> rfl
 refine ⟨_,_,e1,rfl,rfl,rfl,rfl,?_,?_,?_⟩
 ·show (List.toArray _).size=_
  rw [Aj,Ac]
  have:=congrArg Fl eo
  rw [Ac,hp.length_eq,Co] at this
  exact this
 ·show (List.toArray _).toList.Pairwise _
  rw [Cg,Gq]
  refine List.Pairwise.filterMap _ (fun a a' h b hb b' hb'=>?_) Ei
  have k1:b=a:=by
   cases q:owner.getD a none with
   | none=>rw [q] at hb; cases hb
   | some z=>rw [q] at hb; exact (Option.some.inj hb).symm
  have k2:b'=a':=by
   cases q:owner.getD a' none with
   | none=>rw [q] at hb'; cases hb'
   | some z=>rw [q] at hb'; exact (Option.some.inj hb').symm
  rw [k1,k2]; exact h
 ·show (List.toArray _).toList.Perm _
  rw [Cg,eo]
  exact hp
theorem Tb.relay {L:Bool} {t:SetTable} {es:Array (Int×Value)} (T:Tb L t es.size 5) (h5:es.size=5) :
  ∃ es' t',relayAll t es (SetTable.grown es.size)=(es',t',false)/\es'.toList.Perm es.toList/\Tb L t' es'.size 4:=by
 obtain ⟨t',order,e,h1,h2,h3,h4,h6,h7,h8⟩:=aDV (mask:=31) (.inr rfl) t.finger (t.movedTo 31) t.led t.plain (es.map (·.1)) (by rw [Array.size_map]; omega)
 rw [Array.size_map] at h6 h8
 have er:t.relaid (es.map fun x=>x.1) (SetTable.grown es.size)=some (t',order):=by
  unfold SetTable.relaid
  rw [h5]
  exact e
 have hfm:(Array.filterMap (fun x=>es[x]?) order).toList.Perm es.toList:=by
  rw [Array.toList_filterMap]
  refine (h8.filterMap _).trans ?_
  have:(List.range es.size).filterMap (fun x=>es[x]?)=es.toList:=by
   have:∀ (l:List (Int×Value)),(List.range l.length).filterMap (fun x=>l[x]?)=l:=fun l=>by
    have e0:(List.range l.length).map (fun x=>l[x]?)=l.map some:=by
     apply Dh
     intro i
     rw [Af,Af]
     by_cases h:i < l.length
     ·rw [Dc h,Ae h]; simp [h]
     ·rw [Ch (by rw [Co]; omega),Ch (by omega)]; rfl
    have e1:(List.range l.length).filterMap (fun x=>l[x]?)=((List.range l.length).map (fun x=>l[x]?)).filterMap id:=by rw [Dq]; rfl
    rw [e1,e0,Dq]
    show l.filterMap (fun x=>some x)=l
    exact List.filterMap_some
   have h:=this es.toList
   rw [Array.length_toList] at h
   simpa using h
  rw [this]
 have hz:(Array.filterMap (fun x=>es[x]?) order).size=es.size:=by
  rw [<- Array.length_toList,hfm.length_eq,Array.length_toList]
 have T':Tb L t' (Array.filterMap (fun x=>es[x]?) order).size 4:=⟨.inr ⟨h1,by omega⟩,h2,h3.trans T.plain,h4.trans T.led,by rw [hz]; exact h6,h7⟩
 refine ⟨Array.filterMap (fun x=>es[x]?) order,t',?_,hfm,T'⟩
 unfold relayAll
 rw [er]
 dsimp only
 rw [show coversAll order es.size=true from List.isPerm_iff.mpr h8,T'.fits (by decide)]
 rfl
theorem Tb.full {L:Bool} {t:SetTable} {n:Nat} (T:Tb L t n 5):(t.tooFull=true/\n=5)∨(t.tooFull=false/\Tb L t n 4):=by
 have e:t.tooFull=decide (n*5≥t.mask*3):=by
  unfold SetTable.tooFull SetTable.fill
  rw [T.size,T.dums]; rfl
 rw [e]
 rcases T.mask with ⟨a,b⟩ | ⟨a,b⟩
 ·by_cases h:n=5
  ·exact .inl ⟨decide_eq_true (by rw [a,h]; decide),h⟩
  ·exact .inr ⟨decide_eq_false (by omega),⟨.inl ⟨a,by omega⟩,T.dums,T.plain,T.led,T.size,T.rise⟩⟩
 ·exact .inr ⟨decide_eq_false (by omega),⟨.inr ⟨a,b⟩,T.dums,T.plain,T.led,T.size,T.rise⟩⟩
theorem aAI {α:Type} (next:Nat->Nat):∀ (fuel k:Nat) (left:List α) (out:Array α),left.length<=fuel->(pickOrder.go next fuel k left out).toList.Perm (out.toList++left)
 | 0,k,left,out,h=>by
  have:left = []:=Cq.mp (by omega)
  subst this
  rw [Df]; exact List.Perm.refl _
 | fuel+1,k,left,out,h=>by
  have e:pickOrder.go next (fuel+1) k left out=(match left[next k % left.length]? with
   | some x=>pickOrder.go next fuel (k+1) (left.eraseIdx (next k % left.length)) (out.push x)
   | none=>out):=rfl
  rw [e]
  cases q:left[next k % left.length]? with
  | none =>
   have hl:left.length=0:=by
    rcases Fa left.length with z | z
    ·exact z
    ·have:=Gu (next k) z
     rw [Ae this] at q; cases q
   rw [Cq.mp hl,Df]
  | some x =>
   obtain ⟨hi,ex⟩:=Ad.mp q
   refine (aAI next fuel (k+1) _ (out.push x) (by rw [List.length_eraseIdx_of_lt hi]; omega)).trans ?_
   rw [Array.toList_push,El]
   refine List.Perm.append_left _ ?_
   rw [List.eraseIdx_eq_take_drop_succ,Fz,<- ex]
   refine Fq.symm.trans ?_
   rw [Ft hi]
   first | done | rw [En]
theorem aBx {α:Type} (next:Nat->Nat) (xs:Array α):(pickOrder next xs).toList.Perm xs.toList:=by
 have:=aAI next xs.size 0 xs.toList #[] (by rw [Array.length_toList]; exact Ai _)
 exact this
def ent (p:Int×Tok):Int×Value:=(hashInt p.1,.int p.1 p.2)
def SG (L:Bool) (h:Heap) (a:Addr) (ks:List (Int×Tok)):Prop:=∃ o ep es t,h.get? a=some o/\o.ExactSet/\o.data=.set es ep t/\es.toList.Perm (ks.map ent)/\Tb L t es.size 4
theorem SG.keep {L:Bool} {h h':Heap} {a:Addr} {l:List (Int×Tok)} (x:SG L h a l) (k:∀ o,h.get? a=some o->h'.get? a=some o):SG L h' a l:=by
 obtain ⟨o,ep,es,t,e,r⟩:=x
 exact ⟨o,ep,es,t,k o e,r⟩
section
variable {prog:Program} {w:World} {A:Around} {E:Value->Shared->Prop} {s:Shared} {L:Bool} {a:Addr}
theorem aBy (prog:Program) (w:World) {es:Array (Int×Value)} {ks:List (Int×Tok)} (h:es.toList.Perm (ks.map ent)):ElemsOf (intKind prog w) es.toList:=by
 intro e he
 obtain ⟨p,hp,rfl⟩:=Bd.mp (h.mem_iff.mp he)
 exact ⟨⟨p.1,intKind_is _ _ _ _,rfl⟩,rfl⟩
theorem aE3 {ks:List (Int×Tok)} {k:Int} {t:Tok} {Q:Bool->Shared->Prop} (hS:SG L s.heap a ks) (hlen:ks.length<=11)
  (hQ:∀ h' b,Heap.SameBut a s.heap h'->((∃ p∈ks,p.1=k)->SG L h' a ks)->((∀ p∈ks,p.1≠k)->SG L h' a ((k,t)::ks))->Q b { s with heap:=h',toks:=s.toks+1 }) :
  wpAny (model prog w) A (setAdd a (.int k t)) Q E s:=by
 obtain ⟨o,ep,es,tb,ho,hex,hd,hp,T⟩:=hS
 unfold setAdd
 refine wpAny_holding (wpAny_bind ((intKind prog w).pyHash (k:=k) (intKind_is _ _ _ _) ?_))
 have hel:=aBy prog w hp
 have hsz:es.size=ks.length:=by rw [<- Array.length_toList,hp.length_eq,Ac]
 have hfit:=T.fits (by decide)
 have hscan:byScan (.int k t) es=true:=byScan_of (knd:=intKind prog w) rfl (by rw [hsz]; unfold scanBound; omega) hel
 unfold setAddHashed setAddHashedIn
 refine wpAny_holding (wpAny_bind (wpAny_setState_of (s:={ s with toks:=s.toks+1 }) ho hd hfit ?_))
 dsimp only
 rw [hscan]
 simp only [↓reduceIte]
 unfold setAddByScan
 refine wpAny_bind ?_
 refine wpAny_bind (wpAny_rule ?_)
 refine wpAny_bind (wpAny_setScan_of (knd:=intKind prog w) (k:=k) (intKind_is _ _ _ _) ho hd hfit hel ?_)
 cases hr:List.findIdx? (fun e=>(intKind prog w).is k e.2) es.toList with
 | some j =>
  dsimp only
  obtain ⟨hj,hpj,_⟩:=Ed.mp hr
  have hthere:∃ p∈ks,p.1=k:=by
   obtain ⟨p,hp',e⟩:=Bd.mp (hp.mem_iff.mp (Ct hj))
   refine ⟨p,hp',?_⟩
   rw [<- e] at hpj
   obtain ⟨t',e2⟩:=Value.isInt_shape (show Value.isInt k (Value.int p.1 p.2)=true from hpj)
   injection e2
  refine wpAny_pure (wpAny_pure ?_)
  exact hQ s.heap false (Heap.SameBut.refl a s.heap) (fun _=>⟨o,ep,es,tb,ho,hex,hd,hp,T⟩) fun hn=>by
   obtain ⟨p,hp,e⟩:=hthere
   exact absurd e (hn p hp)
 | none =>
  dsimp only
  have hno:∀ p∈ks,p.1≠k:=fun p hp' e=>by
   have:=Fb.mp hr (ent p) (hp.mem_iff.mpr (Bd.mpr ⟨p,hp',rfl⟩))
   have h2:(intKind prog w).is k (Value.int k p.2)=true:=intKind_is _ _ _ _
   simp only [ent,e] at this
   rw [h2] at this
   cases this
  obtain ⟨es1,t1,e1,p1,T1,z1⟩:=T.lay (by omega) ((intKind prog w).hash k) (.int k t)
  have hpn:es1.toList.Perm (((k,t)::ks).map ent):=p1.trans (List.Perm.cons _ hp)
  rw [e1]
  dsimp only
  refine wpAny_bind (wpAny_pure ?_)
  rw [if_pos T1.plain,hashByValue_scannable 8 (x:=.int k t) rfl]
  refine wpAny_bind (wpAny_pure ?_)
  rw [if_pos (show plainKind (.int k t)=true from rfl)]
  refine wpAny_bind (wpAny_storeSet_of (s:={ s with toks:=s.toks+1 }) ho hd ?_ (by rw [z1,sizeLine_eq]; omega))
  have g1:=Bs (Obj.putSet es1 t1) ho (by rw [putSet_of _ _ hd]; rfl)
  rw [putSet_of _ _ hd] at g1
  rcases T1.full with ⟨f1,f5⟩ | ⟨f1,T4⟩
  ·rw [f1]
   obtain ⟨es2,t2,e2,p2,T2⟩:=T1.relay f5
   rw [e2]
   simp only [Gj,Fm,if_true]
   refine wpAny_bind (wpAny_pure ?_)
   have z2:es2.size=es1.size:=by rw [<- Array.length_toList,p2.length_eq,Array.length_toList]
   refine wpAny_bind (wpAny_storeSet_of (s:={ s with heap:=s.heap.update a (Obj.putSet es1 t1),toks:=s.toks+1 }) g1 rfl ?_ (by rw [z2,z1,sizeLine_eq]; omega))
   have g2:=Bs (Obj.putSet es2 t2) g1 (by rw [putSet_of _ _ rfl]; rfl)
   rw [putSet_of _ _ rfl] at g2
   refine wpAny_pure (wpAny_pure ?_)
   exact hQ ((s.heap.update a (Obj.putSet es1 t1)).update a (Obj.putSet es2 t2)) true ((Heap.SameBut.update _ _ _).trans (Heap.SameBut.update _ _ _)) (fun ⟨p,hp,e⟩=>absurd e (hno p hp)) fun _=>⟨_,_,es2,t2,g2,hex,rfl,p2.trans hpn,T2⟩
  ·rw [f1]
   simp only [Gj,Dp,Be,if_false]
   refine wpAny_pure (wpAny_pure ?_)
   exact hQ (s.heap.update a (Obj.putSet es1 t1)) true (Heap.SameBut.update _ _ _) (fun ⟨p,hp,e⟩=>absurd e (hno p hp)) fun _=>⟨_,_,es1,t1,g1,hex,rfl,hpn,T4⟩
structure KsOf (ks:List (Int×Tok)) (ns:List Int):Prop where
 nd:(ks.map (·.1)).Nodup
 mem:∀ k,k∈ks.map (·.1)↔k∈ns
 len:ks.length<=ns.length
theorem aBz {I S:Addr} {fp wr:List Addr} {ns:List Int} {P:Nat->Value->Prop} {St:Nat->Heap->Prop} {R:Result->Shared->Prop} (W:Walks prog w A.in1 I fp wr ns.length P St)
  (hP:∀ i v,P i v->∃ k t,ns[i]?=some k/\v=.int k t) (hfp:∀ c∈fp,c≠S) (hwr:S∉wr) (hlen:ns.length<=12) :
  ∀ (j i:Nat) (s:Shared) (ks:List (Int×Tok)),i+j=ns.length->St i s.heap->SG L s.heap S ks->KsOf ks (ns.take i) ->
   (∀ h' tk ks,SG L h' S ks->KsOf ks ns->(∀ b o,b≠S->b∉wr->s.heap.get? b=some o->h'.get? b=some o)->R (.ok (.ret .none)) { s with heap:=h',toks:=tk }) ->
   codeAny (model prog w) A (.builtin "set.update.loop" ⟨[.ref S,.ref I],[]⟩) R s:=by
 intro j
 induction j with
 | zero =>
  intro i s ks hi st hS hk h
  have e:i=ns.length:=by omega
  subst e
  rw [Bv] at hk
  exact qP W st fun h' tk k=>h h' tk ks (hS.keep fun o e=>k S o hwr e) hk fun b o _ hb e=>k b o hb e
 | succ j ih =>
  intro i s ks hi st hS hk h
  refine nH W (i:=i) (by omega) st fun v h2 tk2 hv st2 k2=>?_
  obtain ⟨k,t,hn,rfl⟩:=hP i v hv
  have hl:=hk.len
  rw [Ax] at hl
  have et:ns.take (i+1)=ns.take i++[k]:=by rw [Bm,hn]; rfl
  refine aE3 (s:={ s with heap:=h2,toks:=tk2 }) (hS.keep fun o e=>k2 S o hwr e) (by omega) fun h3 b sb x1 x2=>?_
  have st3:=W.frame _ _ _ st2 fun c hc o e=>(sb.2 c (hfp c hc)).trans e
  by_cases hkm:∃ p∈ks,p.1=k
  ·refine ih (i+1) _ ks (by omega) st3 (x1 hkm) ⟨hk.nd,fun k'=>?_,by rw [et,Aq,Ax]; omega⟩ fun h' tk ks' y1 y2 kp=>h h' tk ks' y1 y2 fun b o nb hb e=>kp b o nb hb ((sb.2 b nb).trans (k2 b o hb e))
   rw [hk.mem,et,Bp,An]
   refine ⟨.inl,fun z=>?_⟩
   rcases z with z | z
   ·exact z
   ·obtain ⟨p,hp,e⟩:=hkm
    rw [z,<- e]
    exact (hk.mem _).mp (Bd.mpr ⟨p,hp,rfl⟩)
  ·have hno:∀ p∈ks,p.1≠k:=fun p hp e=>hkm ⟨p,hp,e⟩
   refine ih (i+1) _ ((k,t)::ks) (by omega) st3 (x2 hno) ⟨?_,fun k'=>?_,by rw [et,Aq,Ax,Bg]; show _<=_+1; omega⟩ fun h' tk ks' y1 y2 kp=>h h' tk ks' y1 y2 fun b o nb hb e=>kp b o nb hb ((sb.2 b nb).trans (k2 b o hb e))
   ·rw [Ba]
    refine Cu.mpr ⟨fun m=>?_,hk.nd⟩
    obtain ⟨p,hp,e⟩:=Bd.mp m
    exact hno p hp e
   ·rw [Ba,Am,hk.mem,et,Bp,An]
    exact Or.comm
set_option maxHeartbeats 3200000 in
theorem vL {l:Addr} {its:Array Value} {ns:List Int} {Q:Value->Shared->Prop} (hh:A.handled=none) (hl:s.heap.IsTuple l its) (hi:IntsAre its.toList ns) (hlen:ns.length<=12)
  (h:∀ (h':Heap) (tk:Nat) (ks:List (Int×Tok)),SG (Led w) h' s.heap.objs.size ks->KsOf ks ns->(∀ b o,b < s.heap.objs.size->s.heap.get? b=some o->h'.get? b=some o)->Q (.ref s.heap.objs.size) { s with heap:=h',toks:=tk }) :
  wpAny (model prog w) A (call (.type "set") [.ref l]) Q E s:=by
 obtain ⟨c,tl,hmro⟩:=PySem.F.called_set.mro
 have hmade:=PySem.F.called_set.made
 have hsub:=PySem.F.called_set.sub
 refine wpAny_call (codeAny_of_tree ?_)
 show wpAny _ _ (callAny (.type "set") _) _ _ _
 refine wpAny_pure ⟨Code.quiet_builtin _ (by decide +kernel),codeAny_builtin PySem.F.entry_type_call ?_⟩
 rw [Around.under_plain (weight_type_call_type "set" [.ref l] []) rfl]
 have h1:=PySem.F.called_set.notType
 have h2:=PySem.F.called_set.canCreate
 have hct:=PySem.F.typeCall_set_1 (.ref l)
 repeat (any_goals (first | assumption | wp_step))
 refine codeAny_mono (iE (.ref l) (E:=E) (Q₁:=fun obj s₁=>obj=.ref s.heap.objs.size/\s₁={ s with heap:=s.heap.push { cls:=.type "set",dict:=none,data:=.set #[] 0 (.fresh 0 0 (Led w)) } }) ⟨rfl,rfl⟩) fun r s₁ hr=>?_
 cases r with
 | error e=>exact hr
 | ok fl =>
  cases fl with
  | ret obj =>
   obtain ⟨rfl,rfl⟩:=hr
   generalize hled:Led w=led at h ⊢
   have hS:(s.heap.push { cls:=.type "set",dict:=none,data:=.set #[] 0 (.fresh 0 0 led) }).get? s.heap.objs.size=some { cls:=.type "set",dict:=none,data:=.set #[] 0 (.fresh 0 0 led) }:=Ag _ rfl
   have hT:Shared.TypeIs { s with heap:=s.heap.push { cls:=.type "set",dict:=none,data:=.set #[] 0 (.fresh 0 0 led) } } (.ref s.heap.objs.size) "set" := ⟨_,hS,rfl⟩
   have hli:=PySem.F.called_set.init.lookup
   have hbi:=PySem.F.called_set.init.bind (.ref s.heap.objs.size)
   repeat (any_goals (first | assumption | wp_step))
   refine codeAny_mono (codeAny_call_builtin (R:=wants (fun r s₂=>r=.none/\∃ h' tk ks,s₂={ s with heap:=h',toks:=tk }/\SG led h' s.heap.objs.size ks/\KsOf ks ns /\
     (∀ b o,b < s.heap.objs.size->s.heap.get? b=some o->h'.get? b=some o)) E) PySem.F.called_set.init.plain PySem.F.entry_set_init (check_set_init_1 hT ?_)) fun r₂ s₂ hr₂=>?_
   ·obtain ⟨ol,hol,hcl,nl,hdl⟩:=hl
    obtain ⟨ocls,odict,odata,oslots⟩:=ol
    simp only at hcl hdl
    subst hcl; subst hdl
    have hol':(s.heap.push { cls:=.type "set",dict:=none,data:=.set #[] 0 (.fresh 0 0 led) }).get? l=some { cls:=.type "tuple",dict:=odict,data:=.seq its nl,slots:=oslots }:=Aa _ hol
    have hsls:=PySem.F.sub_tuple_set
    have hslf:=PySem.F.sub_tuple_frozenset
    have hne:(Value.type "tuple" == Value.type "dict")=false:=by decide
    have hl1:(s.heap.push { cls:=.type "set",dict:=none,data:=.set #[] 0 (.fresh 0 0 led) }).IsTuple l its:=⟨_,hol',rfl,nl,rfl⟩
    unfold Builtin.«set.__init__» noKeywords Builtin.Frozenset.updateFrom
    generalize hPI:pyIter=PI
    wp_walk
    subst hPI
    refine wpAny_pyIter_tuple hl1 ?_
    refine wpAny_bind (wpAny_runValue ?_)
    have hlS:l < s.heap.objs.size:=Ak hol
    have hh3:A.in1.in1.in1.handled=none:=by simp [hh]
    generalize hH1:s.heap.push { cls:=.type "set",dict:=none,data:=.set #[] 0 (.fresh 0 0 led) }=H1 at *
    have szH1:H1.objs.size=s.heap.objs.size+1:=by rw [<- hH1,Bj]
    have hneI:l≠H1.objs.size:=by rw [szH1]; exact As (Bz hlS)
    have W:=Walks.tuple (prog:=prog) (w:=w) hh3 H1.objs.size l hneI its
    have hsz:its.size=ns.length:=by rw [<- hi.length,Array.length_toList]
    rw [hsz] at W
    generalize hS0:s.heap.objs.size=S at *
    have SI:S≠H1.objs.size:=by omega
    have lS:l≠S:=As hlS
    refine aBz (L:=led) W (fun i v hv=>?_) (fun c hc=>?_) (by simpa using SI) hlen ns.length 0 _ [] (by omega) ⟨⟨_,Ag _ rfl,rfl,rfl⟩,hl1.push _⟩ ?_ ⟨Gk,fun k=>by simp,Ai _⟩ fun h6 tk6 ks6 x6 y6 k6=>?_
    ·have hv':its[i]?=some v:=hv
     have hil:i < its.toList.length:=by
      rw [Array.length_toList]
      exact (Array.getElem?_eq_some_iff.mp hv').1
     have e1:its.toList[i]?=some v:=by rw [Array.getElem?_toList]; exact hv'
     obtain ⟨k,t,e2,e3⟩:=IntsAre.at hi i v e1
     exact ⟨k,t,e3,e2⟩
    ·rcases Am.mp hc with z | z
     ·rw [z]; exact Ne.symm SI
     ·have z':c=l:=by simpa using z
      rw [z']; exact lS
    ·exact ⟨_,0,#[],_,Aa _ hS,⟨rfl,rfl,rfl⟩,rfl,List.Perm.refl _,⟨.inl ⟨rfl,Bo _⟩,rfl,rfl,rfl,rfl,List.Pairwise.nil⟩⟩
    ·show wpAny _ _ _ _ _ _
     refine wpAny_pure ?_
     show wpAny _ _ (ret Value.none) _ _ _
     refine wpAny_pure ⟨rfl,h6,tk6,ks6,rfl,x6,y6,fun c o hc e=>?_⟩
     have c1:c≠S:=As hc
     have c2:c∉[H1.objs.size]:=by
      intro z
      have z':c=H1.objs.size:=by simpa using z
      omega
     exact k6 c o c1 c2 (Aa _ (hH1 ▸ Aa _ e))
   ·cases r₂ with
    | error e=>exact hr₂
    | ok fl₂ =>
     cases fl₂ with
     | ret r =>
      obtain ⟨rfl,h',tk,ks,rfl,hS',hK',hk'⟩:=hr₂
      repeat (any_goals (first | assumption | wp_step))
      exact h _ _ _ hS' hK' hk'
     | _=>exact hr₂.elim
  | _=>exact hr.elim
end
def pN (w:World) (S:Addr) (ep:Nat) (es:Array (Int×Value)):Array (Int×Value):=if w.params.followText "set-order" then pickOrder (w.params.setOrder S ep) es else es
def hG (w:World) (t:SetTable) (i:Nat):Nat:=if w.params.followText "set-order" then 0 else lY t.place i
theorem oK (w:World) (S:Addr) (ep:Nat) (es:Array (Int×Value)):(pN w S ep es).toList.Perm es.toList:=by
 unfold pN
 split
 ·exact aBx _ _
 ·exact List.Perm.refl _
theorem oM (w:World) (S:Addr) (ep:Nat) (es:Array (Int×Value)):(pN w S ep es).size=es.size:=by
 rw [<- Array.length_toList,(oK w S ep es).length_eq,Array.length_toList]
section
variable {prog:Program} {w:World} {A:Around} {E:Value->Shared->Prop} {s:Shared} {S:Addr} {o:Obj} {ep:Nat} {es:Array (Int×Value)} {t:SetTable}
theorem pH {i:Nat} {Q:Option (Value×Nat)->Shared->Prop} (T:Tb (Led w) t es.size 4) (ho:s.heap.get? S=some o) (hd:o.data=.set es ep t) (hi:i<=es.size)
  (h:Q (((pN w S ep es)[i]?).map fun e=>(e.2,hG w t (i+1))) s):wpAny (model prog w) A (setNext S (hG w t i) i ep) Q E s:=by
 have hfit:=T.fits (by decide)
 unfold setNext
 refine wpAny_bind (wpAny_setState_of ho hd hfit ?_)
 dsimp only
 refine wpAny_bind (iA ?_)
 cases hb:w.params.followText "set-order" with
 | true =>
  have e1:pN w S ep es=pickOrder (w.params.setOrder S ep) es:=by unfold pN; rw [hb]; rfl
  have e2:∀ i,hG w t i=0:=fun i=>by unfold hG; rw [hb]; rfl
  rw [e1,e2] at h
  rw [e2]
  simp only [if_true,bne_self_eq_false,Be,if_false]
  refine wpAny_bind ?_
  unfold setWalk
  refine wpAny_bind (wpAny_setState_of ho hd hfit ?_)
  dsimp only
  refine wpAny_bind (iA ?_)
  rw [hb]
  simp only [if_true]
  refine wpAny_bind (wpAny_askSetting (wpAny_pure (wpAny_pure h)))
 | false =>
  have e1:pN w S ep es=es:=by unfold pN; rw [hb]; rfl
  have e2:∀ i,hG w t i=lY t.place i:=fun i=>by unfold hG; rw [hb]; rfl
  have eL:t.led=true:=by rw [T.led]; unfold Led; rw [hb]; rfl
  rw [e1,e2] at h
  rw [e2]
  simp only [Be,if_false]
  have hbl:=zL T.rise (i:=i) (by rw [T.size]; exact hi)
  refine wpAny_ite_split (fun hab=>absurd (show (!t.plain && decide (es.size > 1))=true from hab) (by rw [T.plain]; simp)) (fun _=>?_)
  refine wpAny_bind ?_
  show wpAny _ _ (if (!t.led && !es.isEmpty)=true then unsupported "set:maker-not-led" else pure ()) _ _ _
  rw [eL]
  refine wpAny_pure (wpAny_pure ?_)
  rw [hbl]
  cases q:es[i]? with
  | none=>rw [q] at h; exact h
  | some p =>
   rw [q] at h
   have hlt:i < t.place.size:=by rw [T.size]; exact (Array.getElem?_eq_some_iff.mp q).1
   rw [Array.getElem?_eq_getElem hlt]
   have e5:lY t.place (i+1)=t.place[i]+1:=by
    unfold lY
    rw [if_neg (by omega),Nat.add_sub_cancel,Array.getElem?_eq_getElem hlt]
    rfl
   rw [e5] at h
   exact h
def nM (w:World) (h:Heap) (I S:Addr) (t:SetTable) (n ep i:Nat):Prop :=
 h.get? I=some { cls:=.type "set_iterator",data:=.fields #[rawInt (hG w t i:Nat),rawInt (i:Nat),.ref S,rawInt (n:Nat),rawInt (ep:Nat)] }
theorem aBA (hh:A.handled=none) (I S:Addr) (hne:S≠I) (o:Obj) (ep:Nat) (es:Array (Int×Value)) (t:SetTable) (T:Tb (Led w) t es.size 4) (hd:o.data=.set es ep t) :
  Walks prog w A I [I,S] [I] es.size (fun i v=>∃ k,(pN w S ep es)[i]?=some (k,v)) (fun i h=>nM w h I S t es.size ep i/\h.get? S=some o) where
 sub:=fun b hb=>by simp at hb; simp [hb]
 frame:=fun _ _ _ st hk=>⟨hk I (by simp) _ st.1,hk S (by simp) _ st.2⟩
 item:=fun i s Q E hi st hQ=>by
  obtain ⟨hit,hS⟩:=st
  have hT:s.TypeIs (.ref I) "set_iterator" := ⟨_,hit,rfl⟩
  unfold pyNext
  refine wpAny_bind (wpAny_attempt (wpAny_callSpecial?_slot (name:=Str.ofString "__next__") hT aR
   (wpAny_call_entry aR hT cJ ?_ (bY _))))
  unfold Builtin.«set_iterator.__next__» slotArgs
  simp only [Do,Ee,Be,↓reduceIte,Da,bne_self_eq_false]
  refine wpAny_bind (wpAny_pure ?_)
  dsimp only
  refine wpAny_bind (wpAny_fieldsOf hit rfl ?_)
  show wpAny _ _ (setEntries S >>= _) _ _ s
  refine wpAny_bind (wpAny_bind (wpAny_setState_of hS hd (T.fits (by decide)) (wpAny_pure ?_)))
  dsimp only
  refine wpAny_ite_split (fun hab=>absurd hab (by simp)) (fun _=>?_)
  show wpAny _ _ (setNext S (hG w t i:Int).toNat (i:Int).toNat (ep:Int).toNat >>= _) _ _ s
  rw [Bh,Bh,Bh]
  refine wpAny_bind (pH T hS hd (by omega) ?_)
  obtain ⟨⟨k,v⟩,hkv⟩:∃ e,(pN w S ep es)[i]?=some e:=⟨_,Array.getElem?_eq_getElem (by rw [oM]; exact hi)⟩
  rw [hkv]
  show wpAny _ _ (setField (Value.ref I) 0 (rawInt ↑(hG w t (i+1))) >>= _) _ _ s
  refine wpAny_bind (wpAny_setField_rec hit (by show 0 < 5; decide) fun h1 g1 sb1=>?_)
  refine wpAny_bind (wpAny_setField_rec g1 (by show 1 < 5; decide) fun h2 g2 sb2=>?_)
  refine wpAny_pure ⟨v,rfl,wpAny_pure ?_⟩
  refine hQ v h2 s.toks ⟨k,hkv⟩ ⟨?_,(sb2.2 S hne).trans ((sb1.2 S hne).trans hS)⟩ fun b ob hb e=>?_
  ·unfold nM
   rw [g2]
   congr 1
  ·have hb':b≠I:=by simpa using hb
   exact (sb2.2 b hb').trans ((sb1.2 b hb').trans e)
 done:=fun s Q E st hQ=>by
  obtain ⟨hit,hS⟩:=st
  have hT:s.TypeIs (.ref I) "set_iterator" := ⟨_,hit,rfl⟩
  unfold pyNext
  refine wpAny_bind (wpAny_attempt (wpAny_callSpecial?_slot (name:=Str.ofString "__next__") hT aR
   (wpAny_call_entry aR hT cJ ?_ (bY _))))
  unfold Builtin.«set_iterator.__next__» slotArgs
  simp only [Do,Ee,Be,↓reduceIte,Da,bne_self_eq_false]
  refine wpAny_bind (wpAny_pure ?_)
  dsimp only
  refine wpAny_bind (wpAny_fieldsOf hit rfl ?_)
  show wpAny _ _ (setEntries S >>= _) _ _ s
  refine wpAny_bind (wpAny_bind (wpAny_setState_of hS hd (T.fits (by decide)) (wpAny_pure ?_)))
  dsimp only
  refine wpAny_ite_split (fun hab=>absurd hab (by simp)) (fun _=>?_)
  show wpAny _ _ (setNext S (hG w t es.size:Int).toNat (es.size:Int).toNat (ep:Int).toNat >>= _) _ _ s
  rw [Bh,Bh,Bh]
  refine wpAny_bind (pH T hS hd (Ai _) ?_)
  have hkv:(pN w S ep es)[es.size]?=none:=by rw [Array.getElem?_eq_none]; rw [oM]; exact Ai _
  rw [hkv]
  show wpAny _ _ (setField (Value.ref I) 2 Value.none >>= _) _ _ s
  refine wpAny_bind (wpAny_setField_rec hit (by show 2 < 5; decide) fun h1 g1 sb1=>?_)
  show wpAny _ _ (newExc (.type "StopIteration") [] >>= _) _ _ _
  refine wpAny_bind ?_
  simp only [newExc,newTuple]
  refine wpAny_bind (wpAny_newObj_type ?_ (by size_fits))
  refine wpAny_bind (m:=firstArgMember _ _) (wpAny_of_eq (a:=Value.none) (by first | rfl | (simp only [firstArgMember]; rfl)) ?_)
  refine wpAny_newObj_type ?_ (by size_fits)
  simp only [raiseNew]
  refine wpAny_bind (wpAny_handled ?_)
  first | rw [show A.in1.handled=none from hh] | rw [hh]
  refine wpAny_bind (wpAny_pure (wpAny_throw ?_))
  refine wpAny_bind (wpAny_isInstance (T := "StopIteration") (b:=true) ⟨_,Ag _ rfl,rfl⟩ isSubtype_stop ?_)
  refine wpAny_pure (hQ _ s.toks fun b ob hb e=>?_)
  have hb':b≠I:=by simpa using hb
  exact Aa _ (Aa _ ((sb1.2 b hb').trans e))
 self:=fun i s Q E st h=>by
  obtain ⟨hit,hS⟩:=st
  have hT:s.TypeIs (.ref I) "set_iterator" := ⟨_,hit,rfl⟩
  refine wpAny_pyIter_slot hT cN (wpAny_call_entry cN hT fX ?_ (eY _))
  show wpAny _ _ (ret (.ref I)) _ _ s
  exact wpAny_pure ⟨_,rfl, "set_iterator",_,hT,aR.lookup,h⟩
theorem xP {Q:Value->Shared->Prop} (T:Tb (Led w) t es.size 4) (ho:s.heap.get? S=some o) (hex:o.ExactSet) (hd:o.data=.set es ep t)
  (h:Q (.ref s.heap.objs.size) { s with heap:=s.heap.push { cls:=.type "set_iterator",data:=.fields #[rawInt (hG w t 0:Nat),rawInt ((0:Nat):Int),.ref S,rawInt (es.size:Nat),rawInt (ep:Nat)] } }):wpAny (model prog w) A (pyIter (.ref S)) Q E s:=by
 have hT:s.TypeIs (.ref S) "set" := ⟨o,ho,hex.1⟩
 refine wpAny_pyIter_slot hT PySem.F.slot_set_iter (wpAny_call_entry PySem.F.slot_set_iter hT kN ?_ (PySem.F.args_set_iter_1 _))
 unfold Builtin.«frozenset.__iter__» Builtin.Frozenset.slot0 slotArgs
 simp only [Do,Ee,Be,↓reduceIte,bind_assoc,Da,bne_self_eq_false]
 refine wpAny_bind (wpAny_pure ?_)
 dsimp only
 refine wpAny_bind (m:=Builtin.Frozenset.addrOf (.ref S)) (wpAny_pure ?_)
 unfold Builtin.Frozenset.sizeOf setEntries
 refine wpAny_bind (wpAny_bind (wpAny_bind (wpAny_setState_of ho hd (T.fits (by decide)) (wpAny_pure (wpAny_pure ?_)))))
 dsimp only
 unfold setDrawn
 refine wpAny_bind (wpAny_bind (wpAny_setState_of ho hd (T.fits (by decide)) (wpAny_bind (iA (wpAny_pure ?_)))))
 have hb:∀ b:Bool,(!b && false)=false:=by decide
 refine wpAny_ite_split (fun hab=>absurd (show (!(w.params.followText "set-order") && (!t.plain && decide (es.size > 1)))=true from hab) (by rw [T.plain]; rw [show (!true && decide (es.size > 1))=false from rfl,hb]; decide)) (fun _=>?_)
 refine wpAny_bind (wpAny_pure ?_)
 unfold setEpoch
 refine wpAny_bind (wpAny_bind (wpAny_setState_of ho hd (T.fits (by decide)) (wpAny_pure ?_)))
 dsimp only
 have e0:hG w t 0=0:=by unfold hG lY; split <;> rfl
 refine wpAny_bind (wpAny_newObj_type (wpAny_pure ⟨_,rfl, "set_iterator",_,⟨_,Ag _ rfl,rfl⟩,aR.lookup,?_⟩))
 rw [e0] at h
 exact h
theorem aBB {Q:Bool->Shared->Prop} (T:Tb (Led w) t es.size 4) (ho:s.heap.get? S=some o) (hex:o.ExactSet) (hd:o.data=.set es ep t)
  (h:∀ b,Q b s):wpAny (model prog w) A (Builtin.List.listLengthHint (.ref S)) Q E s:=by
 have hT:s.TypeIs (.ref S) "set" := ⟨o,ho,hex.1⟩
 unfold Builtin.List.listLengthHint
 refine wpAny_bind (wpAny_specialOf hT PySem.F.slot_set_len.lookup ?_)
 generalize hid:("set.__len__" : String)=id0
 wp_delta
 rw [show splitId id0=some ("set", "__len__") from by subst hid; decide +kernel]
 subst hid
 refine wpAny_bind (wpAny_isInstance (T := "set") (b:=true) hT (by rw [isSubtype_type]; kernel_rfl) ?_)
 refine wpAny_ite_split (fun hab=>absurd hab (by decide)) (fun _=>?_)
 refine wpAny_ite_split (fun _=>?_) (fun hab=>absurd (by decide +kernel) hab)
 refine wpAny_bind (wpAny_typeOf hT ?_)
 exact wpAny_pure (h false)
theorem vM {Q:List Value->Shared->Prop} (hh:A.handled=none) (T:Tb (Led w) t es.size 4) (ho:s.heap.get? S=some o) (hex:o.ExactSet) (hd:o.data=.set es ep t)
  (h:∀ h' tk vs,(∀ b o,s.heap.get? b=some o->h'.get? b=some o)->vs=(pN w S ep es).toList.map (·.2)->Q vs { s with heap:=h',toks:=tk }):wpAny (model prog w) A (collect (.ref S)) Q E s:=by
 refine mK fun R hR=>?_
 generalize hD:s.heap.objs.size=D at *
 have hSD : @LT.lt Nat instLTNat S D:=by rw [<- hD]; exact Ak ho
 generalize hH0:s.heap.push { cls:=.type "list",data:=.seq ([]:List Value).toArray }=H0
 have szH0:H0.objs.size=D+1:=by rw [<- hH0,Bj,hD]
 have ho':H0.get? S=some o:=by rw [<- hH0]; exact Aa _ ho
 have hDl:H0.get? D=some { cls:=.type "list",data:=.seq #[] 0 }:=by rw [<- hH0,<- hD]; exact Ag _ rfl
 have old0:∀ b ob,s.heap.get? b=some ob->H0.get? b=some ob:=fun b ob e=>by rw [<- hH0]; exact Aa _ e
 unfold Builtin.List.listExtendWith
 refine wpAny_bind (wpAny_typeOf (T := "set") ⟨o,ho',hex.1⟩ ?_)
 have h1:Builtin.List.listSameRef (.ref D) (.ref S)=false:=by simp [Builtin.List.listSameRef]; exact Cb hSD
 have h2:(Value.type "set" == Value.type "list")=false:=by decide
 have h3:(Value.type "set" == Value.type "tuple")=false:=by decide
 simp only [h1,h2,h3,Bool.or_false,Be,if_false]
 refine wpAny_bind (xP (s:={ s with heap:=H0 }) T ho' hex hd ?_)
 generalize hI:H0.objs.size=I at *
 have W:=(aBA (prog:=prog) (w:=w) (A:=A.in1) hh I S (As (by omega)) o ep es t T hd).toS
 have key:∀ (hp:Heap) (c tk:Nat),nM w hp I S t es.size ep 0->hp.get? S=some o->(∀ b ob,b≠D->H0.get? b=some ob->hp.get? b=some ob)->hp.get? D=some { cls:=.type "list",data:=.seq #[] c } ->
   codeAny (model prog w) A (.builtin "list.extend.loop" ⟨[.ref D,.ref I,.ref D],[]⟩) R { s with heap:=hp,toks:=tk }:=by
  intro hp c tk hit hS hk hDl'
  refine codeAny_extend_loopS W (by rw [sizeLine_eq]; rcases T.mask with ⟨_,b⟩ | ⟨_,b⟩ <;> omega) D (by
   simp only [Am,An,Ap,or_false,not_or]
   exact ⟨As (by omega),Cb hSD⟩) (.ref D) es.size 0 _ #[] c rfl (Bo _) ⟨hit,hS⟩ hDl' (ItemsOf.nil _) fun s' acc' c' hm hS' hacc=>?_
  rw [Moved.eq_with hm]
  refine hR { s with heap:=s'.heap,toks:=s'.toks } acc' c' hS' (h s'.heap s'.toks acc'.toList (fun b ob e=>hm.heap b ob (fun hmem=>?_) (hk b ob ?_ (old0 b ob e))) ?_)
  ·have hb : @LT.lt Nat instLTNat b D:=by rw [<- hD]; exact Ak e
   rcases Am.mp hmem with z | z
   ·exact absurd z (As hb)
   ·have z':b=I:=by simpa using z
    exact absurd z' (As (by omega))
  ·have hb : @LT.lt Nat instLTNat b D:=by rw [<- hD]; exact Ak e
   exact As hb
  ·obtain ⟨hs,hi⟩:=hacc
   apply Dh
   intro j
   rw [Af,Array.getElem?_toList,Array.getElem?_toList]
   cases e:acc'[j]? with
   | none =>
    have hj:es.size<=j:=by
     rw [<- hs]
     exact Array.getElem?_eq_none_iff.mp e
    rw [Array.getElem?_eq_none (by rw [oM]; exact hj)]
    rfl
   | some v =>
    obtain ⟨k,hk⟩:=hi j v e
    rw [hk]
    rfl
 have hit0:nM w (H0.push { cls:=.type "set_iterator",data:=.fields #[rawInt (hG w t 0:Nat),rawInt ((0:Nat):Int),.ref S,rawInt (es.size:Nat),rawInt (ep:Nat)] }) I S t es.size ep 0:=by
  rw [<- hI]; exact Ag _ rfl
 have hD1:=Aa { cls:=.type "set_iterator",data:=.fields #[rawInt (hG w t 0:Nat),rawInt ((0:Nat):Int),.ref S,rawInt (es.size:Nat),rawInt (ep:Nat)] } hDl
 refine wpAny_bind (wpAny_holding (aBB (s:={ s with heap:=H0.push { cls:=.type "set_iterator",data:=.fields #[rawInt (hG w t 0:Nat),rawInt ((0:Nat):Int),.ref S,rawInt (es.size:Nat),rawInt (ep:Nat)] } }) T (Aa _ ho') hex hd fun bb=>?_))
 have DI:D≠I:=As (by omega)
 refine wpAny_ite_split (fun _=>?_) (fun _=>wpAny_pure ⟨plainId_quiet PySem.F.plain_extend_loop _,key _ 0 _ hit0 (Aa _ ho') (fun b ob _ e=>Aa _ e) hD1⟩)
 refine wpAny_bind (wpAny_rule ?_)
 refine wpAny_bind ?_
 show wpAny _ _ (updateSeq D (·.push .none) >>= fun _=>updateSeq D (·.pop)) _ _ _
 refine wpAny_bind (wpAny_updateSeq hD1 rfl ?_)
 have hS₂:=Bs (Obj.mapSeq (·.push Value.none)) hD1 rfl
 refine wpAny_updateSeq (hz:=by seq_fits) hS₂ rfl ?_
 have hS₃:=Bs (Obj.mapSeq (·.pop)) hS₂ rfl
 refine wpAny_pure ⟨plainId_quiet PySem.F.plain_extend_loop _,key _ _ _ ?_ ?_ (fun b ob hb e=>?_) hS₃⟩
 ·exact (Aw _ _ DI).trans ((Aw _ _ DI).trans hit0)
 ·exact (Aw _ _ (Cb hSD)).trans ((Aw _ _ (Cb hSD)).trans (Aa _ ho'))
 ·exact (Aw _ _ (Ne.symm hb)).trans ((Aw _ _ (Ne.symm hb)).trans (Aa _ e))
end
def xQ (out ns:List Int):Prop:=out.Pairwise (· < ·)/\∀ k,k∈out↔k∈ns
def aDW (w:World) (p:Addr) (ns:List Int):HO:=.ext fun h=>∃ ks,SG (Led w) h p ks/\KsOf ks ns
theorem tW:∀ {l:List (Int×Value)} {ks:List (Int×Tok)},l=ks.map ent->IntsAre (l.map (·.2)) (ks.map (·.1))
 | _,[],rfl=>.nil
 | _,p::ks,rfl=>.cons _ p.2 (tW rfl)
theorem aBC:∀ {l l':List (Int×Value)},l.Perm l'->(∀ e∈l',∃ p,e=ent p)->∃ ks:List (Int×Tok),l=ks.map ent:=fun {l l'} h q=>by
 have q':∀ e∈l,∃ p,e=ent p:=fun e he=>q e (h.mem_iff.mp he)
 clear h q
 induction l with
 | nil=>exact ⟨[],rfl⟩
 | cons e r ih =>
  obtain ⟨p,rfl⟩:=q' e (Ao ..)
  obtain ⟨ks,rfl⟩:=ih fun y hy=>q' y (Av _ hy)
  exact ⟨p::ks,rfl⟩
theorem aCM {ks ks':List (Int×Tok)} (h:(ks.map ent).Perm (ks'.map ent)):(ks.map (·.1)).Perm (ks'.map (·.1)):=by
 have e:∀ l:List (Int×Tok),l.map (·.1)=(l.map ent).map fun e=>match e.2 with | .int k _=>k | _=>0:=fun l=>by rw [Ez]; rfl
 rw [e,e]
 exact h.map _
section
variable {X:Cx}
theorem aBD {K:PySem.W.Frag} (hK:X.K=K) (hc:X.calm=true):eT X (.type "set") (fun xs H Q=>∃ (l:Addr) (ns:List Int),xs = [.ref l]/\SqT K H l (ns.map V.int)/\ns.length<=12/\∀ p,H p=none->Q (.ref p) (upd H p (aDW X.w p ns))):=by
 subst hK
 intro pins s σ H xs us Q I r h
 obtain ⟨l,ns,rfl,hL,hn,q⟩:=h
 obtain ⟨u,rfl,rx⟩:=eN r
 cases rx
 obtain ⟨its,rv,pl,hz⟩:=I.tuple hL
 refine vL (I.ok.hd hc) pl (oG rv) hn fun h' tk ks x y kp=>?_
 have kp':∀ b o,s.heap.get? b=some o->h'.get? b=some o:=fun b o e=>kp b o (Ak e) e
 have hf:=I.hok.fresh (Ai s.heap.objs.size)
 refine ⟨.ref s.heap.objs.size,_,I.laid (t':=tk) kp' (Ai _) ?_,rfl,q _ hf⟩
 refine ⟨⟨ks,x,y⟩,?_,fun h1 h2 ⟨ks,z,y⟩ k=>⟨ks,z.keep k,y⟩⟩
 obtain ⟨o,ep,es,t,e,_⟩:=x
 exact ⟨o,e⟩
theorem vN (hc:X.calm=true):eT X (.builtin "sorted") (fun xs H Q=>∃ (p:Addr) (ns:List Int),xs = [.ref p]/\H p=some (aDW X.w p ns)/\ns.length<=12/\∀ q out,xQ out ns->H q=none->Q (.ref q) (upd H q (.lst (out.map V.int)))):=by
 intro pins s σ H xs us Q I r h
 obtain ⟨p,ns,rfl,hp,hn,q⟩:=h
 obtain ⟨u,rfl,rx⟩:=eN r
 cases rx
 obtain ⟨⟨ks,⟨o,ep,es,t,ho,hex,hd,hpm,T⟩,hk⟩,_,_⟩:=I.hok p _ hp
 obtain ⟨ks',e'⟩:=aBC ((oK X.w p ep es).trans hpm) fun e he=>by
  obtain ⟨y,_,rfl⟩:=Bd.mp he
  exact ⟨y,rfl⟩
 have hkk:(ks'.map (·.1)).Perm (ks.map (·.1)):=aCM (by rw [<- e']; exact (oK X.w p ep es).trans hpm)
 have hl12:=hk.len
 have hlen:(ks'.map (·.1)).length<=12:=by rw [hkk.length_eq,Ac]; omega
 refine tO (ns:=ks'.map (·.1)) (by omega) (fun Q' hQ'=>?_) fun h1 h' tk out ns' k1 k2 pl hi' hp' ho'=>?_
 ·exact vM (A:=X.A.in1) (I.ok.hd hc) T ho hex hd fun h' tk vs kp e=>hQ' h' tk vs kp (by rw [e]; exact tW e')
 ·have I1:Inv X pins σ H { s with heap:=h1,toks:=tk }:=I.kept k1
  have hf:=I1.hok.fresh (Ai _)
  have hpp:=hp'.trans hkk
  have hs:xQ ns' ns:=by
   refine ⟨?_,fun k=>hpp.mem_iff.trans (hk.mem k)⟩
   have nd:ns'.Nodup:=hpp.nodup_iff.mpr hk.nd
   exact (List.Pairwise.and ho' nd).imp fun ⟨a,b⟩=>by omega
  have hl2:ns'.length<=12:=by rw [hp'.length_eq]; exact hlen
  obtain ⟨n,e⟩:=pl
  have I2:Inv X pins σ (upd H h1.objs.size (.lst (ns'.map V.int))) { s with heap:=h',toks:=tk } :=
   I1.laid (t':=tk) k2 (Ai _) (show bR X.prog X.w _ _ _ (.lst _) from ⟨by rw [Ac,sizeLine_eq]; omega,out.toList,n,jB hi',by simpa using e⟩)
  exact ⟨.ref h1.objs.size,_,I2,rfl,q _ _ hs hf⟩
end
open PySem.AutoSeq1 (wpAny_loadPart')
theorem tD (l:Addr) (items:Array Value) (n:Nat) (dd:Option Addr) (sl:Array (Option Value)) (u:Tok) :
  Meets (Builtin.«tuple.__mul__» ⟨[.ref l,.int 1 u],[]⟩) (fun _ R s=>s.heap.get? l=some { cls:=.type "tuple",dict:=dd,data:=.seq items n,slots:=sl }/\R (.ok (.ret (Value.ref l))) s) :=
 .of_wp fun prog w A R s h=>by
  obtain ⟨hp,g,d,tk,os⟩:=s
  obtain ⟨hl,h⟩:=h
  have f1:=AutoSeq1.idx_int
  have f2:=AutoSeq1.sub_tuple_tuple
  wp_walk using wpAny_loadPart' hl
  exact ⟨_,rfl,h⟩
theorem rB (l:Addr) (items:Array Value) (n:Nat) (dd:Option Addr) (sl:Array (Option Value)) (u:Tok) (hne:items.isEmpty=false) :
  Meets (Builtin.«tuple.__mul__» ⟨[.ref l,.int 0 u],[]⟩) (fun _ R s=>s.heap.get? l=some { cls:=.type "tuple",dict:=dd,data:=.seq items n,slots:=sl }/\R (.ok (.ret (Value.ref s.heap.objs.size))) { s with heap:=s.heap.push { cls:=Value.type "tuple",data:=Data.seq #[] } }) :=
 .of_wp fun prog w A R s h=>by
  obtain ⟨hp,g,d,tk,os⟩:=s
  obtain ⟨hl,h⟩:=h
  have f1:=AutoSeq1.idx_int
  have f2:=AutoSeq1.sub_tuple_tuple
  wp_walk using wpAny_loadPart' hl
  exact ⟨_,rfl,h⟩
theorem pO (l:Addr) (items:Array Value) (n:Nat) (dd:Option Addr) (sl:Array (Option Value)) (u:Tok) (hne:items.isEmpty=true) :
  Meets (Builtin.«tuple.__mul__» ⟨[.ref l,.int 0 u],[]⟩) (fun _ R s=>s.heap.get? l=some { cls:=.type "tuple",dict:=dd,data:=.seq items n,slots:=sl }/\R (.ok (.ret (Value.ref l))) s) :=
 .of_wp fun prog w A R s h=>by
  obtain ⟨hp,g,d,tk,os⟩:=s
  obtain ⟨hl,h⟩:=h
  have f1:=AutoSeq1.idx_int
  have f2:=AutoSeq1.sub_tuple_tuple
  wp_walk using wpAny_loadPart' hl
  exact ⟨_,rfl,h⟩
def aFU (K:PySem.W.Frag):R2:=fun x y H Q=>∃ a,∃ k:Nat,∃ xs,x=.ref a/\y=.int k/\SqT K H a xs/\k<=1000/\xs.length<=1000/\∀ p H',aE H H'->SqT K H' p (List.replicate k xs).flatten->Q (.ref p) H'
theorem pW {X:Cx} {K:PySem.W.Frag} (hK:X.K=K):OpR X (binaryOp .Mult) (aFU K):=by
 intro pins s σ H x y v u Q I rx ry h
 obtain ⟨a,k,xs,rfl,rfl,ha,h2,hz,q⟩:=h
 by_cases h1:1 < k
 ·exact aDH hK pins s σ H _ _ v u Q I rx ry ⟨a,k,xs,rfl,rfl,ha,by omega,by omega,hz,q⟩
 subst hK
 cases rx
 obtain ⟨t,rfl⟩:=ry
 obtain ⟨its,r,⟨⟨cls,dd,data,sl⟩,ho,hc,n,hd⟩,hzz⟩:=I.tuple ha
 simp only at hc hd
 subst hc hd
 refine wpAny_binaryOp_repeat_ref (T := "tuple") (U := "int") (by decide) ⟨_,ho,rfl⟩ (fun s'=>typeIs_int s' k t) jC PySem.F.fills_int_mul PySem.F.slot_int_rmul nJ PySem.F.slot_int_index.lookup
  (call_meets PySem.F.slot_int_rmul (typeIs_int s k t) PySem.F.entry_int_rmul (PySem.F.args_int_rmul_2 _ _) (kO k t a its.toArray n dd sl) ⟨ho,rfl,⟨_,ho,rfl⟩,?_⟩)
 rcases (show k=0∨k=1 by omega) with rfl | rfl
 ·by_cases hx:its = []
  ·subst hx
   cases r
   refine call_meets PySem.F.slot_tuple_mul ⟨_,ho,rfl⟩ PySem.F.entry_tuple_mul (PySem.F.args_tuple_mul_2 _ _) (pO a _ n dd sl t rfl) ⟨ho,?_⟩
   exact ⟨.ref a,H,I,rfl,q a H (aE.refl H) ha⟩
  ·have hne:its.toArray.isEmpty=false:=by
    cases its with
    | nil=>exact absurd rfl hx
    | cons _ _=>rfl
   refine call_meets PySem.F.slot_tuple_mul ⟨_,ho,rfl⟩ PySem.F.entry_tuple_mul (PySem.F.args_tuple_mul_2 _ _) (rB a its.toArray n dd sl t hne) ⟨ho,?_⟩
   refine ⟨.ref _,_,I.laid (t':=s.toks) (o:=.tup []) (fun b ob q=>Aa _ q) (Ai _) ?_,rfl,q _ _ (aE.new (I.hok.fresh (Ai _))) (SqT.of aB)⟩
   exact ⟨Bo _,[],0,.nil,Ag _ rfl⟩
 ·refine call_meets PySem.F.slot_tuple_mul ⟨_,ho,rfl⟩ PySem.F.entry_tuple_mul (PySem.F.args_tuple_mul_2 _ _) (tD a its.toArray n dd sl t) ⟨ho,?_⟩
  exact ⟨.ref a,H,I,rfl,q a H (aE.refl H) (by simpa using ha)⟩
structure Zip3Apart (z TI TO i1 i2 i3 l1 l2 l3:Addr):Prop where
 TIz:TI≠z
 TOz:TO≠z
 i1z:i1≠z
 i2z:i2≠z
 i3z:i3≠z
 TITO:TI≠TO
 TIi1:TI≠i1
 TIi2:TI≠i2
 TIi3:TI≠i3
 TOi1:TO≠i1
 TOi2:TO≠i2
 TOi3:TO≠i3
 i12:i1≠i2
 i13:i1≠i3
 i23:i2≠i3
 l1:∀ c∈[z,TO,i1,i2,i3],l1≠c
 l2:∀ c∈[z,TO,i1,i2,i3],l2≠c
 l3:∀ c∈[z,TO,i1,i2,i3],l3≠c
section
variable {prog:Program} {w:World} {A:Around} {E:Value->Shared->Prop} {s:Shared} {z TI TO i1 i2 i3 l1 l2 l3:Addr} {n n2 n3:Nat} {P1 P2 P3:Nat->Value->Prop} {st1 st2 st3:Nat->Heap->Prop}
end
section
variable (k1 k2 k3:Sk) (h:Heap) (a b d:Addr)
end
section
variable {X:Cx} {es:List Expr} {x1:Nat} {tpos:Pos}
end
section
variable {K:PySem.W.Frag} {own:Nat} {fr:List Nat} {g:TG} {te:TE} {σ:St} {H:Hp} {Qf:Hp->List V->Prop}
end
section
variable {X:Cx} {K:PySem.W.Frag}
theorem aBE (hK:X.K=K):MtR X "list.count" (fun x vs H Q=>∃ (a:Addr) (ns:List Int) (n:Int),x=.ref a/\vs = [.int n]/\SqL K H a (ns.map V.int)/\Q (.int (ns.count n:Nat)) H):=by
 subst hK
 intro pins s σ H x v vs us Q I rx r h
 obtain ⟨a,ns,n,rfl,rfl,ha,q⟩:=h
 obtain ⟨u,rfl,t,rfl⟩:=eN r
 cases rx
 obtain ⟨its,rv,⟨⟨cls,dd,data,sl⟩,k,ho,hc,hdd,hd⟩,hzz⟩:=I.list ha
 simp only at hc hd
 subst hc hd
 have hi:IntsAre its ns:=jN rv
 refine call_meets PySem.F.slot_list_count ⟨_,ho,rfl⟩ PySem.F.entry_list_count (PySem.F.args_list_count_2 _ _) (SeqAt.list_countAt a its.toArray k dd sl (.int n t) (isInt n)) ⟨ho,fun y hy=>(eq_isInt n t hi y (by simpa using hy)).at _ _,?_⟩
 have e:(its.toArray.toList.countP (isInt n))=ns.count n:=by
  simp only [Cg]
  clear q r ha rv ho hzz hdd
  induction hi with
  | nil=>rfl
  | cons m t' _ ih =>
   rw [Fo,Ca,ih]
   rfl
 rw [e]
 exact ⟨.int _,H,I.tok _,⟨_,rfl⟩,q⟩
end
section
variable {X:Cx} {scope:Scope} {own frn:List Str} {fr:List Nat} {kx vx tg iter:Expr} {ifs:List Expr} {pos:Pos} {wi:TI} {g:TG} {tt:TT} {tk tv:TE}
end
section
variable {X:Cx} {scope:Scope} {own frn:List Str} {fr:List Nat} {e elt tg d:Expr} {ifs:List Expr} {pos:Pos} {t td:TE} {g:TG} {tt:TT} {te:TE}
end
theorem aBF {a:Addr} {o:Obj} {kvs:List (Key×V)} {own:Nat} {fr:List Nat} {g:TG} {tt:TT} {te:TE} {σ:St} {H:Hp} {Q:Hp->List V->Prop} (SH:St->Prop) (Pv:Nat->List V->Hp->Prop) (hn:kvs.length<=sizeLine) (hσ:SH (blk own fr σ)) (h0:Pv 0 [] H) (hlen:∀ i ys H,Pv i ys H->ys.length<=i) (hl:∀ i ys H,Pv i ys H->H a=some (.frz o (.dK kvs)))
  (hs:∀ i ys σ p H,kvs[i]?=some p->SH σ->Pv i ys H->ys.length < sizeLine->g (kV p.1) σ H fun σ2 H2=>tt σ2 H2 fun b H3=>if b=true then te σ2 H3 fun y H4=>ys.length < sizeLine/\SH σ2/\Pv (i+1) (ys++[y]) H4 else SH σ2/\Pv (i+1) ys H3)
  (hd:∀ ys H,Pv kvs.length ys H->Q H ys) :
  ∃ W:Nat->Nat->List V->St->Hp->Prop,(∃ m,W 0 m [] (blk own fr σ) H)/\∀ i m ys σ' H,W i m ys σ' H ->
   ((Itd a o kvs).stop i H/\Q H ys) ∨
   ((Itd a o kvs).go i H/\∃ N:List V->St->Hp->Prop,(∀ ys' σ2 H2,N ys' σ2 H2->∃ m',m' < m/\W (i+1) m' ys' σ2 H2) /\
    ∀ x H',(Itd a o kvs).yld i H x H'->g x σ' H' fun σ2 H2=>tt σ2 H2 fun b H3=>if b=true then te σ2 H3 fun y H4=>ys.length < sizeLine/\N (ys++[y]) σ2 H4 else N ys σ2 H3):=by
 refine lG kvs.length hn SH Pv hσ h0 hlen (fun ys H p=>⟨hl _ _ _ p,rfl⟩) (fun i ys H hi p=>⟨hl _ _ _ p,hi⟩) (fun i ys σ x H H' hi sh p y hz=>?_) hd
 obtain ⟨rfl,v,hv,rfl⟩:=y
 exact hs i ys σ v _ hv sh p hz
section
variable {X:Cx}
end
structure Fn (K:PySem.W.Frag) (mg:Str->Option Value) (x:Str) (st:Stmt) (ps:List Str) (f:Addr) (fd:FuncData):Prop where
 fn:Fun K x x st f fd
 mgx:mg x=some (.ref f)
 kp:PySem.W.keepIn K (.ref f)=true
 bd:tH K fd ps []
theorem aW {X:Cx} {x:Str} {st:Stmt} {ps:List Str} {f:Addr} {fd:FuncData} {k:Nat} {sp:Sp} {p pos:Pos} {e:Expr} {es:List Expr} {t:TA} (G:Fn X.K X.mg x st ps f fd) (ok:FnOk X.prog X.w X.K X.mg X.base CX0 k f fd ps sp) (hr:Room k X.A) (hg:Gl X x) (ha:PA X (e::es) t)
  (hdb:(x==("__debug__" : Str))=false:=by decide) (he:starEach (e::es) X.env=(false,eval e X.env)::starEach es X.env:=by rfl) (hpl:(backTo pos (starEach es X.env)).any (·.1)=false:=by rfl) :
  PE X (.Call (.Name x p) (e::es) [] pos) (aEm sp [] E0 t):=aDy ok hr hg G.mgx G.kp G.bd .nil aFG ha hdb he hpl
structure Bl (mg:Str->Option Value):Prop where
 isinstance:mg "isinstance" = none
 int:mg "int" = none
 bool:mg "bool" = none
 tuple:mg "tuple" = none
 list:mg "list" = none
 len:mg "len" = none
 all:mg "all" = none
 zip:mg "zip" = none
 range:mg "range" = none
 sorted:mg "sorted" = none
 set:mg "set" = none
 sum:mg "sum" = none
 repr:mg "repr" = none
 enumerate:mg "enumerate" = none
 min:mg "min" = none
 any:mg "any" = none
 max:mg "max" = none
 hands:∃ t,mg "MOST_HANDS" = some (.int 6 t)
 works:∃ t,mg "MOST_WORKS" = some (.int 12 t)
 mr:∃ t,mg "MOST_ROOM" = some (.int 12 t)
theorem iG:bootBuiltins "isinstance" = some (.builtin "isinstance"):=by decide +kernel
theorem aEt:bootBuiltins "int" = some (.type "int"):=by decide +kernel
theorem aCN:bootBuiltins "bool" = some (.type "bool"):=by decide +kernel
theorem bT:bootBuiltins "tuple" = some (.type "tuple"):=by decide +kernel
theorem vO:bootBuiltins "list" = some (.type "list"):=by decide +kernel
theorem cY:bootBuiltins "len" = some (.builtin "len"):=by decide +kernel
theorem lZ:bootBuiltins "all" = some (.builtin "all"):=by decide +kernel
theorem aDX:bootBuiltins "range" = some (.type "range"):=by decide +kernel
theorem xR:bootBuiltins "sorted" = some (.builtin "sorted"):=by decide +kernel
theorem aCO:bootBuiltins "set" = some (.type "set"):=by decide +kernel
theorem aEu:bootBuiltins "sum" = some (.builtin "sum"):=by decide +kernel
theorem aCP:bootBuiltins "repr" = some (.builtin "repr"):=by decide +kernel
end L2
namespace Ab
open PySem L2
def top (i:Nat):Stmt:=PySem.Challenge.pw_ablehands_k16_as_few_left_out_as_can_be.main.body.getD i (.Pass ⟨0,0,0,0⟩)
abbrev mM:Stmt:=top 9
abbrev rC:Stmt:=top 10
abbrev rD:Stmt:=top 11
abbrev rE:Stmt:=top 12
abbrev vP:Stmt:=top 13
abbrev zO:Stmt:=top 14
abbrev zP:Stmt:=top 15
abbrev lI:Stmt:=top 17
abbrev gO:Stmt:=top 19
abbrev kP:Stmt:=top 20
abbrev rF:Stmt:=top 21
abbrev mO:Stmt:=top 24
abbrev mP:Stmt:=top 25
abbrev zQ:Stmt:=top 26
abbrev kQ:Stmt:=top 27
abbrev oN:Stmt:=top 28
abbrev kR:Stmt:=top 30
abbrev zR:Stmt:=top 31
abbrev nN:Stmt:=top 32
abbrev tX:Stmt:=top 34
abbrev zS:Stmt:=top 35
abbrev vQ:Stmt:=top 36
abbrev aAJ:Stmt:=top 37
abbrev aCQ:Stmt:=top 39
abbrev jE:Stmt:=top 40
abbrev kS:Stmt:=top 41
abbrev aAK:Stmt:=top 43
abbrev mQ:Stmt:=top 44
abbrev tY:Stmt:=top 45
abbrev aAL:Stmt:=top 46
abbrev nO:Stmt:=top 48
abbrev rG:Stmt:=top 49
abbrev gX:Stmt:=top 50
abbrev vR:Stmt:=top 51
abbrev aCR:Stmt:=top 52
def fM:PyData->Bool
 | .int _=>true
 | _=>false
def iH:PyData->Bool
 | .int i=>decide (1<=i) && decide (i<=6)
 | _=>false
def eJ (hands:Int):Int->List PyData->Bool
 | _,[]=>true
 | last,.int i::r=>decide (last < i) && decide (i < hands) && eJ hands i r
 | _,_::_=>false
def cB (hands:Int):PyData->Bool
 | .tuple ds=>!ds.isEmpty && eJ hands (-1) ds
 | _=>false
def aE4:PyData->PyData->Bool
 | .int h,.tuple ws=>decide (1<=h) && decide (h<=6) && decide (ws.length<=12) && ws.all (cB h)
 | _,_=>false
def bU:PyData->Bool
 | .tuple [dh,dw]=>aE4 dh dw
 | _=>false
section
variable {P:Program} {w:World} {K:PySem.W.Frag} {mg:Str->Option Value} {base:Heap}
def iS (K:PySem.W.Frag):Sp:=fun vs H Q _=>∃ x d,vs = [x]/\Den K H d x/\Q (.bl (fM d)) H
theorem aDY:FnScope ["thing"] ["thing"] (aH mM):=⟨rfl,rfl,rfl,by decide +kernel,rfl,by decide +kernel,by decide +kernel⟩
theorem iI {f:Addr} {fd:FuncData} (G:Fn K mg "is_whole" mM ["thing"] f fd) (B:Bl mg):FnOk P w K mg base CX0 1 f fd ["thing"] (iS K):=by
 refine G.fn.ok aDY (fun vs H Q E h=>?_) (fun cdv A outer s H vs Q E hr h=>?_)
 ·obtain ⟨x,d,rfl,_⟩:=h
  rfl
 ·obtain ⟨x,d,rfl,hd,k⟩:=h
  refine ⟨_,aF (aQ (kC (aK nG rfl B.isinstance iG (aA (pv 0) (aA (dY (v:=.ty "int") rfl B.int aEt rfl) aC)))
   (kB (aBW (aK lU rfl B.isinstance iG (aA (pv 0) (aA (dY (v:=.ty "bool") rfl B.bool aCN rfl) aC))))))),?_⟩
  refine ⟨_,rfl,x,iX d,rfl,hd.kd,_,rfl,?_⟩
  refine cF (fun c=>?_) (fun c=>?_)
  ·refine ⟨_,rfl,x,iX d,rfl,hd.kd,_,rfl,?_⟩
   have e:(!decide (iX d=Kd.bl))=fM d:=by
    cases d <;> first | rfl | (exfalso; simp [iX] at c)
   rw [e]
   exact k
  ·have e:false=fM d:=by
    cases d <;> first | rfl | (exfalso; simp [iX] at c)
   rw [e]
   exact k
def aAM (K:PySem.W.Frag):Sp:=fun vs H Q _=>∃ x d,vs = [x]/\Den K H d x/\Q (.bl (iH d)) H
theorem aDZ:FnScope ["thing"] ["thing"] (aH rC):=⟨rfl,rfl,rfl,by decide +kernel,rfl,by decide +kernel,by decide +kernel⟩
theorem aCS {f fW:Addr} {fd fdW:FuncData} (G:Fn K mg "are_hands" rC ["thing"] f fd) (B:Bl mg) (W:Fn K mg "is_whole" mM ["thing"] fW fdW):FnOk P w K mg base CX0 2 f fd ["thing"] (aAM K):=by
 have GW:FnOk P w K mg base CX0 1 fW fdW ["thing"] (iS K):=iI W B
 obtain ⟨t6,h6⟩:=B.hands
 refine G.fn.ok aDZ (fun vs H Q E h=>?_) (fun cdv A outer s H vs Q E hr h=>?_)
 ·obtain ⟨x,d,rfl,_⟩:=h
  rfl
 ·obtain ⟨x,d,rfl,hd,k⟩:=h
  refine ⟨_,aF (aQ (kC (aW W GW hr rfl (aA (pv 0) aC))
   (kB (wL qH qH aG (pv 0) (uR (v:=.int 6) rfl h6 ⟨t6,rfl⟩))))),?_⟩
  refine ⟨_,rfl,x,d,rfl,hd,_,rfl,?_⟩
  refine cF (fun c=>?_) (fun c=>?_)
  ·obtain ⟨i,rfl⟩:∃ i,d=.int i:=by cases d <;> first | exact ⟨_,rfl⟩ | (exfalso; simp [fM] at c)
   obtain rfl:=cS.mp hd
   refine ⟨_,rfl,_,_,rfl,rfl,_,rfl,?_⟩
   refine cF (fun c1=>?_) (fun c1=>?_)
   ·refine ⟨_,_,rfl,rfl,?_⟩
    have e:decide (i<=6)=iH (.int i):=by
     show _=(decide (1<=i) && decide (i<=6))
     rw [c1,Ck]
    show Q (.bl (decide (i<=6))) H
    rw [e]; exact k
   ·have e:false=iH (.int i):=by
     show _=(decide (1<=i) && decide (i<=6))
     have c2:decide (1<=i)=false:=by simpa using c1
     rw [c2,Gi]
    rw [e]; exact k
  ·have e:false=iH d:=by cases d <;> first | rfl | (exfalso; simp [fM] at c)
   rw [e]; exact k
theorem gY (h l i:Int) (r:List PyData):eJ h l (.int i::r)=(decide (l < i) && decide (i < h) && eJ h i r):=by rw [eJ]
theorem rH (h l:Int) (d:PyData) (r:List PyData) (n:fM d=false):eJ h l (d::r)=false:=by
 cases d <;> first | rfl | (simp [fM] at n)
def vS (K:PySem.W.Frag):Sp:=fun vs H Q _=>∃ n x d,vs = [.int n,x]/\Den K H d x/\Q (.bl (cB n d)) H
theorem pX:FnScope ["hands", "thing", "last", "hand"] ["hands", "thing"] (aH rD):=⟨rfl,rfl,rfl,by decide +kernel,rfl,by decide +kernel,by decide +kernel⟩
theorem xS {f fW:Addr} {fd fdW:FuncData} (G:Fn K mg "is_work" rD ["hands", "thing"] f fd) (B:Bl mg) (W:Fn K mg "is_whole" mM ["thing"] fW fdW):FnOk P w K mg base CX0 2 f fd ["hands", "thing"] (vS K):=by
 have GW:FnOk P w K mg base CX0 1 fW fdW ["thing"] (iS K):=iI W B
 refine G.fn.ok pX (fun vs H Q E h=>?_) (fun cdv A outer s H vs Q E hr h=>?_)
 ·obtain ⟨n,x,d,rfl,_⟩:=h
  rfl
 ·obtain ⟨n,x,d,rfl,hd,k⟩:=h
  refine ⟨_,aD (bJ (PW.pt (eM (bZ (bW (aK bQ rfl B.isinstance iG (aA (pv 1) (aA (dY (v:=.ty "tuple") rfl B.tuple bT rfl) aC)))))
    (dP (aL iC (aK aM rfl B.len cY (aA (pv 1) aC)) aG (aN _))))) (aF (aQ dM)) aT)
   (aD (aV (i:=2) pX.nd rfl (Or.inl rfl) (aBZ yQ aG))
   (aD (eU PassesOwn.never rfl (eA (pv 1)) (aI (i:=3) pX.nd rfl (Or.inl rfl))
    (aD (bJ (PW.pt (eM (bZ (bW (aW W GW hr rfl (aA (pv 3) aC)))) (eM (aL qH (pv 3) (pv 2) (aN _)) (dP (aL qI (pv 3) (pv 0) (aN _)))))) (aF (aQ dM)) aT)
    (aF (aV (i:=2) pX.nd rfl (Or.inl rfl) (pv 3)))))
   (aF (aQ dM)))),?_⟩
  refine ⟨_,rfl,x,iX d,rfl,hd.kd,_,rfl,?_⟩
  refine cF (fun c=>?_) (fun c=>?_)
  ·-- not a tuple
   refine eR ?_
   have e:false=cB n d:=by
    cases d <;> first | rfl | (exfalso; simp [iX] at c)
   rw [e]; exact k
  ·obtain ⟨ds,rfl⟩:∃ ds,d=.tuple ds:=by cases d <;> first | exact ⟨_,rfl⟩ | (exfalso; simp [iX] at c)
   obtain ⟨a,xs,rfl,ha,hds⟩:=bV.mp hd
   have hl:=aP hds
   refine ⟨_,rfl,a,xs,rfl,.inr ha,rfl,_,rfl,?_⟩
   refine cF (fun c2=>?_) (fun c2=>?_)
   ·have e:false=cB n (.tuple ds):=by
     have e1:ds = []:=by
      have:(xs.length:Int)=0:=by simpa using c2
      exact Cq.mp (by omega)
     rw [e1]; rfl
    rw [e]; exact k
   ·have hne:ds≠[]:=by
     intro z
     apply c2
     rw [z] at hl
     simp [hl]
    have e0:cB n (.tuple ds)=eJ n (-1) ds:=by
     show (!ds.isEmpty && eJ n (-1) ds)=_
     cases ds with
     | nil=>exact absurd rfl hne
     | cons _ _=>rfl
    rw [e0] at k
    refine ⟨_,rfl,?_⟩
    refine ⟨_,rfl,a,rfl,⟨xs,ha⟩,uS (K:=K) (a:=a) (xs:=xs) (fun i σ H2=>∃ (last:Int) (v:Option V),σ = [some (.int n),some (.ref a),some (.int last),v]/\H2=H/\eJ n (-1) ds=eJ n last (ds.drop i))
     ⟨-1,none,rfl,rfl,rfl⟩ (fun i σ H2 _ ⟨_,_,_,e,_⟩=>by rw [e]; exact ha) ?_ ?_⟩
    ·rintro i y σ H2 hi ⟨last,v,rfl,rfl,hr2⟩
     obtain ⟨dy,hdy,hden⟩:=cQ hds hi
     have hdrop:ds.drop i=dy::ds.drop (i+1):=by
      obtain ⟨hlt,e⟩:=Ad.mp hdy
      rw [Fe hlt,e]
     rw [hdrop] at hr2
     refine ⟨_,rfl,y,dy,rfl,hden,_,rfl,?_⟩
     refine cF (fun c3=>?_) (fun c3=>?_)
     ·refine eR ?_
      have e:false=eJ n (-1) ds:=by rw [hr2,rH]; simpa using c3
      rw [e]; exact k
     ·obtain ⟨j,rfl⟩:∃ j,dy=.int j:=by cases dy <;> first | exact ⟨_,rfl⟩ | (exfalso; simp [fM] at c3)
      obtain rfl:=cS.mp hden
      rw [gY] at hr2
      refine ⟨_,rfl,_,rfl,_,_,rfl,rfl,_,rfl,?_⟩
      refine cF (fun c4=>?_) (fun c4=>?_)
      ·refine eR ?_
       have c4':j<=last:=of_decide_eq_true c4
       have e:false=eJ n (-1) ds:=by rw [hr2,decide_eq_false (by omega:¬ last < j)]; rfl
       rw [e]; exact k
      ·have c4':¬ j<=last:=fun z=>c4 (decide_eq_true z)
       refine ⟨_,rfl,_,rfl,_,_,rfl,rfl,_,rfl,?_⟩
       refine cF (fun c5=>?_) (fun c5=>?_)
       ·have c5':n<=j:=of_decide_eq_true c5
        have e:false=eJ n (-1) ds:=by rw [hr2,decide_eq_false (by omega:¬ j < n),Dp]; rfl
        rw [e]; exact k
       ·have c5':¬ n<=j:=fun z=>c5 (decide_eq_true z)
        refine ⟨_,rfl,j,some (.int j),rfl,rfl,?_⟩
        rw [hr2,decide_eq_true (by omega:last < j),decide_eq_true (by omega:j < n)]
        rfl
    ·rintro σ H2 ⟨last,v,rfl,rfl,hr2⟩
     have e:true=eJ n (-1) ds:=by
      rw [hr2,hl,List.drop_length]
      rfl
     show Q (.bl true) _
     rw [e]; exact k
theorem aD0 {σ:St} {H:Hp} {A B:Hp->Prop} (h:A H):wQ σ H fun b H3=>if b=true then A H3 else B H3:=by
 show if true=true then A H else B H
 exact eR h
theorem cW {i:Nat} {x:V} {σ:St} {H:Hp} {A B:St->Hp->Prop} (h:A (σ.set i (some x)) H):aAo i x σ H fun σ2 H2=>wQ σ2 H2 fun b H3=>if b=true then A σ2 H3 else B σ2 H3:=by
 show if true=true then A (σ.set i (some x)) H else B (σ.set i (some x)) H
 exact eR h
def aAN (K:PySem.W.Frag):Sp:=fun vs H Q _=>∃ x d,vs = [x]/\Den K H d x/\∀ H',aE H H'->Q (.bl (bU d)) H'
theorem vT:FnScope ["thing", "hands", "works"] ["thing"] (aH rE):=⟨rfl,rfl,rfl,by decide +kernel,rfl,by decide +kernel,by decide +kernel⟩
theorem aCT {f fW fH fK:Addr} {fd fdW fdH fdK:FuncData} (G:Fn K mg "is_book" rE ["thing"] f fd) (B:Bl mg) (W:Fn K mg "is_whole" mM ["thing"] fW fdW) (GH:Fn K mg "are_hands" rC ["thing"] fH fdH) (GK:Fn K mg "is_work" rD ["hands", "thing"] fK fdK):FnOk P w K mg base CX0 3 f fd ["thing"] (aAN K):=by
 have OH:FnOk P w K mg base CX0 2 fH fdH ["thing"] (aAM K):=aCS GH B W
 have OK:FnOk P w K mg base CX0 2 fK fdK ["hands", "thing"] (vS K):=xS GK B W
 obtain ⟨t12,h12⟩:=B.works
 refine G.fn.ok vT (fun vs H Q E h=>?_) (fun cdv A outer s H vs Q E hr h=>?_)
 ·obtain ⟨x,d,rfl,_⟩:=h
  rfl
 ·obtain ⟨x,d,rfl,hd,k⟩:=h
  refine ⟨_,aD (bJ (PW.pt (eM (bZ (bW (aK bQ rfl B.isinstance iG (aA (pv 0) (aA (dY (v:=.ty "tuple") rfl B.tuple bT rfl) aC)))))
    (dP (aL iZ (aK aM rfl B.len cY (aA (pv 0) aC)) aG (aN _))))) (aF (aQ dM)) aT)
   (aD (fZ (pv 0) (eG rfl (aO (aI (i:=1) vT.nd rfl (Or.inr rfl)) (aO (aI (i:=2) vT.nd rfl (Or.inl rfl)) cH))))
   (aD (bJ (bZ (bW (aW GH OH hr rfl (aA (pv 1) aC)))) (aF (aQ dM)) aT)
   (aD (bJ (PW.pt (eM (bZ (bW (aK bQ rfl B.isinstance iG (aA (pv 2) (aA (dY (v:=.ty "tuple") rfl B.tuple bT rfl) aC)))))
    (dP (aL wK (aK aM rfl B.len cY (aA (pv 2) aC)) (uR (v:=.int 12) rfl h12 ⟨t12,rfl⟩) (aN _))))) (aF (aQ dM)) aT)
   (aF (aQ (aK (eW rfl) rfl B.all lZ (aA
    (bO (own:=["work"]) (fr:=[1]) (frn:=["hands"]) (aU (aH rE) ["thing", "hands", "works"] rfl rfl (by decide +kernel)) rfl (eA (pv 2))
     (fun _ _ _ _=>aI (i:=0) (show (["work", "hands"]:List Str).Nodup by decide +kernel) rfl (Or.inl rfl)) (fun _ _ _ _=>cT) (fun _ _ _ _=>aW GK OK hr rfl (aA (pv 1) (aA (pv 0) aC)))) aC))))))),?_⟩
  refine ⟨_,rfl,x,iX d,rfl,hd.kd,_,rfl,?_⟩
  refine cF (fun c=>?_) (fun c=>?_)
  ·refine eR ?_
   have e:false=bU d:=by
    cases d <;> first | rfl | (exfalso; simp [iX] at c)
   rw [e]; exact k H (aE.refl H)
  ·obtain ⟨ds,rfl⟩:∃ ds,d=.tuple ds:=by cases d <;> first | exact ⟨_,rfl⟩ | (exfalso; simp [iX] at c)
   obtain ⟨a,xs,rfl,ha,hds⟩:=bV.mp hd
   have hl:=aP hds
   refine ⟨_,rfl,a,xs,rfl,.inr ha,rfl,_,rfl,?_⟩
   refine cF (fun c2=>?_) (fun c2=>?_)
   ·have e:false=bU (.tuple ds):=by
     match ds,hl,c2 with
     | [],_,_=>rfl
     | [_],_,_=>rfl
     | [_,_],hl,c2=>exfalso; rw [hl] at c2; simp at c2
     | _::_::_::_,_,_=>rfl
    rw [e]; exact k H (aE.refl H)
   ·obtain ⟨dh,dw,rfl⟩:∃ dh dw,ds = [dh,dw]:=by
     match ds,hl,c2 with
     | [],hl,c2=>exfalso; rw [hl] at c2; simp at c2
     | [_],hl,c2=>exfalso; rw [hl] at c2; simp at c2
     | [p,q],_,_=>exact ⟨p,q,rfl⟩
     | p::q::r::t,hl,c2=>exfalso; apply c2; rw [hl]; simp; omega
    obtain ⟨xh,r1,rfl,hh,h2⟩:=aS.mp hds
    obtain ⟨xw,r2,rfl,hw,h3⟩:=aS.mp h2
    obtain rfl:=aY.mp h3
    -- hands,works=thing
    refine ⟨_,rfl,a,_,rfl,ha,rfl,_,_,rfl,_,_,rfl,rfl,?_⟩
    -- are_hands(hands)
    refine ⟨_,rfl,xh,dh,rfl,hh,_,rfl,?_⟩
    refine cF (fun c3=>?_) (fun c3=>?_)
    ·have e:false=bU (.tuple [dh,dw]):=by
      have c3':iH dh=false:=by simpa using c3
      cases dh with
      | int n =>
       cases dw with
       | tuple ws =>
        have c4:(decide (1<=n) && decide (n<=6))=false:=c3'
        show _=(decide (1<=n) && decide (n<=6) && decide (ws.length<=12) && ws.all (cB n))
        rw [c4]; rfl
       | _=>rfl
      | _=>rfl
     rw [e]; exact k H (aE.refl H)
    ·obtain ⟨n,rfl,hn⟩:∃ n,dh=.int n/\(decide (1<=n) && decide (n<=6))=true:=by
      cases dh <;> first | exact ⟨_,rfl,by simpa [iH] using c3⟩ | (exfalso; simp [iH] at c3)
     obtain rfl:=cS.mp hh
     refine ⟨_,rfl,xw,iX dw,rfl,hw.kd,_,rfl,?_⟩
     refine cF (fun c5=>?_) (fun c5=>?_)
     ·refine eR ?_
      have e:false=bU (.tuple [.int n,dw]):=by
       cases dw <;> first | rfl | (exfalso; simp [iX] at c5)
      rw [e]; exact k H (aE.refl H)
     ·obtain ⟨ws,rfl⟩:∃ ws,dw=.tuple ws:=by cases dw <;> first | exact ⟨_,rfl⟩ | (exfalso; simp [iX] at c5)
      obtain ⟨b,ys,rfl,hb,hws⟩:=bV.mp hw
      have hlw:=aP hws
      have eB:bU (.tuple [.int n,.tuple ws])=(decide (ws.length<=12) && ws.all (cB n)):=by
       show (decide (1<=n) && decide (n<=6) && decide (ws.length<=12) && ws.all (cB n))=_
       rw [hn,Ck]
      rw [eB] at k
      refine ⟨_,rfl,b,ys,rfl,.inr hb,_,_,rfl,rfl,_,rfl,?_⟩
      refine cF (fun c6=>?_) (fun c6=>?_)
      ·have c6':(12:Int) < ys.length:=of_decide_eq_true c6
       have e:false=(decide (ws.length<=12) && ws.all (cB n)):=by rw [decide_eq_false (by omega:¬ ws.length<=12)]; rfl
       rw [e]; exact k H (aE.refl H)
      ·have c6':¬ (12:Int) < ys.length:=fun z=>c6 (decide_eq_true z)
       have e1:decide (ws.length<=12)=true:=decide_eq_true (by omega)
       rw [e1,Ck] at k
       refine ⟨_,rfl,b,rfl,⟨ys,hb⟩,gA (K:=K) (a:=b) (xs:=ys) (fun σ=>∃ v,σ = [v,some (.int n)]) (fun i zs H2=>H2=H/\zs=((ws.take i).map (cB n)).map V.bl) ?_ ⟨none,rfl⟩ ⟨rfl,rfl⟩ ?_ ?_ ?_ ?_⟩
       ·rw [sizeLine_eq]; omega
       ·rintro i zs H2 ⟨_,rfl⟩
        rw [Ac,Ac,Ax]; omega
       ·rintro i zs H2 ⟨rfl,_⟩
        exact hb
       ·rintro i zs σ x H2 hx ⟨v,rfl⟩ ⟨rfl,rfl⟩ hz
        obtain ⟨dx,hdx,hden⟩:=cQ hws hx
        refine cW ?_
        refine ⟨_,rfl,_,rfl,n,x,dx,rfl,hden,hz,⟨some x,rfl⟩,rfl,?_⟩
        rw [Bm,hdx]
        simp
       ·rintro zs H2 ⟨rfl,rfl⟩ p hp
        refine ⟨p,_,rfl,SqL.of aB,?_⟩
        have e2:((ws.take ys.length).map (cB n)).all id=ws.all (cB n):=by
         rw [hlw,Bv,Du]
         rfl
        rw [e2]
        exact k _ (aE.new hp)
end
def bF (l:List Int):PyData:=.tuple (l.map .int)
def bD (n:Int) (ws:List (List Int)):PyData:=.tuple [.int n,.tuple (ws.map bF)]
def gQ (hs:List Int):PyData:=.tuple (hs.map .int)
def gC:PyData->List Int->Bool
 | .int i,l=>l.any (·==i)
 | _,_=>false
def gR (ws:List (List Int)):PyData->Bool
 | .tuple hs=>decide (hs.length=ws.length) && (hs.zip ws).all fun p=>gC p.1 p.2
 | _=>false
theorem iB (l:List Int):(l.map V.int).all nE=true:=by
 rw [Du]
 exact Bf.mpr fun _ _=>rfl
theorem jP (i:Int) (l:List Int):inV (.int i) (l.map V.int)=l.any (·==i):=by
 unfold inV
 rw [Gc]
 rfl
theorem cR {K:PySem.W.Frag} {H:Hp} {n:Int} {ws:List (List Int)} {x:V} (h:Den K H (bD n ws) x):∃ a b ys,x=.ref a/\SqT K H a [.int n,.ref b]/\SqT K H b ys/\aZ K H (ws.map bF) ys:=by
 obtain ⟨a,xs,rfl,ha,hds⟩:=bV.mp h
 obtain ⟨xh,r1,rfl,hh,h2⟩:=aS.mp hds
 obtain ⟨xw,r2,rfl,hw,h3⟩:=aS.mp h2
 obtain rfl:=aY.mp h3
 obtain rfl:=cS.mp hh
 obtain ⟨b,ys,rfl,hb,hys⟩:=bV.mp hw
 exact ⟨a,b,ys,rfl,ha,hb,hys⟩
theorem bG {n:Int} {ws:List (List Int)} (h:bU (bD n ws)=true):1<=n/\n<=6/\ws.length<=12/\∀ l∈ws,cB n (bF l)=true:=by
 have h':(decide (1<=n) && decide (n<=6) && decide ((ws.map bF).length<=12) && (ws.map bF).all (cB n))=true:=h
 simp only [Az,decide_eq_true_eq,Ac,Bf] at h'
 exact ⟨h'.1.1.1,h'.1.1.2,h'.1.2,fun l hl=>h'.2 _ (Bd.mpr ⟨l,hl,rfl⟩)⟩
theorem vU {X:Cx} {pos:Pos} {es:List Expr} {k:Nat} {t:TGs} {n:Nat} {K:PySem.W.Frag} (hK:X.K=K) (hc:X.calm=true) (h:PGs X es t)
  (hn:(assignEach es X.env).length=n:=by rfl) (hst:(assignEach es X.env).findIdx? (·.1)=none:=by rfl):PG X (.Tuple es k pos) (aFv K n t):=by
 subst hK
 exact eG hc h hn hst
section
variable {X:Cx} {K:PySem.W.Frag}
theorem rJ (hK:X.K=K):OpR X (compareOp .In) (rIn K false):=by subst hK; exact lE
theorem jQ (hK:X.K=K):IxR X (aFE K):=by subst hK; exact bK
theorem zT (hK:X.K=K):MtR X "tuple.count" (fun x vs H Q=>∃ (a:Addr) (ns:List Int) (n:Int),x=.ref a/\vs = [.int n]/\SqT K H a (ns.map V.int)/\Q (.int (ns.count n:Nat)) H):=by subst hK; exact aBf
end
section
variable {P:Program} {w:World} {K:PySem.W.Frag} {mg:Str->Option Value} {base:Heap}
structure Pr (K:PySem.W.Frag) (mg:Str->Option Value) (fW fH fK fB fNB fD fND fL:Addr) (dW dH dK dB dNB dD dND dL:FuncData):Prop where
 W:Fn K mg "is_whole" mM ["thing"] fW dW
 H:Fn K mg "are_hands" rC ["thing"] fH dH
 Kw:Fn K mg "is_work" rD ["hands", "thing"] fK dK
 B:Fn K mg "is_book" rE ["thing"] fB dB
 NB:Fn K mg "need_book" zO ["book"] fNB dNB
 D:Fn K mg "is_deal" vP ["book", "thing"] fD dD
 ND:Fn K mg "need_deal" zP ["book", "deal"] fND dND
 C:∃ f d,Fn K mg "counted" kR ["hands", "deal"] f d
 L:Fn K mg "loads" zR ["book", "deal"] fL dL
variable {fW fH fK fB fNB fD fND fL:Addr} {dW dH dK dB dNB dD dND dL:FuncData}
def pY (K:PySem.W.Frag):Sp:=fun vs H Q _=>∃ x d,vs = [x]/\Den K H d x/\bU d=true/\∀ H',aE H H'->Q .non H'
theorem aD1:FnScope ["book"] ["book"] (aH zO):=⟨rfl,rfl,rfl,by decide +kernel,rfl,by decide +kernel,by decide +kernel⟩
theorem rK (B:Bl mg) (R:Pr K mg fW fH fK fB fNB fD fND fL dW dH dK dB dNB dD dND dL):FnOk P w K mg base CX0 4 fNB dNB ["book"] (pY K):=by
 have OB:FnOk P w K mg base CX0 3 fB dB ["thing"] (aAN K):=aCT R.B B R.W R.H R.Kw
 refine R.NB.fn.ok aD1 (fun vs H Q E h=>?_) (fun cdv A outer s H vs Q E hr h=>?_)
 ·obtain ⟨x,d,rfl,_⟩:=h
  rfl
 ·obtain ⟨x,d,rfl,hd,hb,k⟩:=h
  refine ⟨_,aF (bJ (bZ (bW (aW R.B OB hr rfl (aA (pv 0) aC)))) lD aT),?_⟩
  refine ⟨_,rfl,x,d,rfl,hd,fun H' hs=>⟨_,rfl,?_⟩⟩
  rw [hb]
  refine cE ?_
  exact k H' hs
def aAO (K:PySem.W.Frag):Sp:=fun vs H Q _=>∃ x y n ws d,vs = [x,y]/\Den K H (bD n ws) x/\bU (bD n ws)=true/\Den K H d y/\∀ H',aE H H'->Q (.bl (gR ws d)) H'
theorem aAP:FnScope ["book", "thing", "works"] ["book", "thing"] (aH vP):=⟨rfl,rfl,rfl,by decide +kernel,rfl,by decide +kernel,by decide +kernel⟩
theorem aCU (B:Bl mg) (R:Pr K mg fW fH fK fB fNB fD fND fL dW dH dK dB dNB dD dND dL):FnOk P w K mg base CX0 5 fD dD ["book", "thing"] (aAO K):=by
 have ON:FnOk P w K mg base CX0 4 fNB dNB ["book"] (pY K):=rK B R
 have OW:FnOk P w K mg base CX0 1 fW dW ["thing"] (iS K):=iI R.W B
 refine R.D.fn.ok aAP (fun vs H Q E h=>?_) (fun cdv A outer s H vs Q E hr h=>?_)
 ·obtain ⟨x,y,n,ws,d,rfl,_⟩:=h
  rfl
 ·obtain ⟨x,y,n,ws,d,rfl,hx,hb,hd,k⟩:=h
  have hr1:Room 1 _:=hr.mono (by decide)
  refine ⟨_,aD (dZ (aW R.NB ON hr rfl (aA (pv 0) aC)))
   (aD (aV (i:=2) aAP.nd rfl (Or.inl rfl) (bA bK (pv 0) aG (fun _ _=>rfl)))
   (aD (bJ (PW.pt (eM (bZ (bW (aK bQ rfl B.isinstance iG (aA (pv 1) (aA (dY (v:=.ty "tuple") rfl B.tuple bT rfl) aC)))))
    (dP (aL iZ (aK aM rfl B.len cY (aA (pv 1) aC)) (aK aM rfl B.len cY (aA (pv 2) aC)) (aN _))))) (aF (aQ dM)) aT)
   (aF (aQ (aK (eW rfl) rfl B.all lZ (aA
    (bO (own:=["hand", "able"]) (fr:=[]) (frn:=[]) (aU (aH vP) ["book", "thing", "works"] rfl rfl (by decide +kernel)) rfl (uX .t .t rfl B.zip (aA (pv 1) (aA (pv 2) aC)))
     (fun _ _ _ _=>vU (K:=K) (n:=2) rfl rfl (aO (aI (i:=0) (show (["hand", "able"]:List Str).Nodup by decide +kernel) rfl (Or.inl rfl)) (aO (aI (i:=1) (show (["hand", "able"]:List Str).Nodup by decide +kernel) rfl (Or.inl rfl)) cH)))
     (fun _ _ _ _=>cT) (fun _ _ _ _=>kC (aW R.W OW hr1 rfl (aA (pv 0) aC)) (kB (fJ (rJ (K:=K) rfl) (pv 0) (pv 1) (by with_unfolding_all rfl))))) aC)))))),?_⟩
  refine ⟨_,rfl,x,bD n ws,rfl,hx,hb,fun H1 s1=>?_⟩
  have hx1:=s1.den _ _ hx
  have hd1:=s1.den _ _ hd
  obtain ⟨a,b,ys,rfl,ha,hb2,hys⟩:=cR hx1
  have hlw:=aP hys
  rw [Ac] at hlw
  refine ⟨_,rfl,a,_,1,.ref b,rfl,rfl,ha,rfl,?_⟩
  refine ⟨_,rfl,y,iX d,rfl,hd1.kd,_,rfl,?_⟩
  refine cF (fun c=>?_) (fun c=>?_)
  ·refine eR ?_
   have e:false=gR ws d:=by
    cases d <;> first | rfl | (exfalso; simp [iX] at c)
   rw [e]; exact k H1 s1
  ·obtain ⟨hs,rfl⟩:∃ hs,d=.tuple hs:=by cases d <;> first | exact ⟨_,rfl⟩ | (exfalso; simp [iX] at c)
   obtain ⟨a2,xs,rfl,ha2,hxs⟩:=bV.mp hd1
   have hlx:=aP hxs
   refine ⟨_,rfl,a2,xs,rfl,.inr ha2,_,rfl,b,ys,rfl,.inr hb2,rfl,_,rfl,?_⟩
   refine cF (fun c2=>?_) (fun c2=>?_)
   ·have e:false=gR ws (.tuple hs):=by
     show _=(decide (hs.length=ws.length) && (hs.zip ws).all fun p=>gC p.1 p.2)
     rw [decide_eq_false]
     ·rfl
     ·intro z
      have:(V.int (xs.length:Int)=V.int (ys.length:Int)):=by rw [hlx,hlw,z]
      simp [this] at c2
    rw [e]; exact k H1 s1
   ·have heq:xs.length=ys.length:=by
     have:V.int (xs.length:Int)=V.int (ys.length:Int):=by simpa using c2
     injection this with this
     omega
    have e0:gR ws (.tuple hs)=(hs.zip ws).all fun p=>gC p.1 p.2:=by
     show (decide (hs.length=ws.length) && _)=_
     rw [decide_eq_true (by omega:hs.length=ws.length),Ck]
    rw [e0] at k
    obtain ⟨_,_,h12,_⟩:=bG hb
    refine ⟨_,rfl,_,rfl,a2,b,xs,ys,rfl,ha2,hb2,aCj (K:=K) (k1:=.t) (k2:=.t) (a:=a2) (b:=b) (xs:=xs) (ys:=ys) (fun σ=>∃ u v,σ = [u,v]) (fun i zs H2=>aE H1 H2/\zs=(((hs.zip ws).take i).map fun p=>gC p.1 p.2).map V.bl) ?_ heq ⟨none,none,rfl⟩ ⟨aE.refl H1,rfl⟩ ?_ ?_ ?_ ?_⟩
    ·rw [sizeLine_eq]; omega
    ·rintro i zs H2 ⟨_,rfl⟩
     rw [Ac,Ac,Ax]; omega
    ·rintro i zs H2 ⟨s2,_⟩
     exact ⟨s2.seqT ha2,s2.seqT hb2⟩
    ·rintro i zs σ u v p H2 hu hv ⟨u0,v0,rfl⟩ ⟨s2,rfl⟩ hp hz
     obtain ⟨du,hdu,denu⟩:=cQ hxs hu
     obtain ⟨dv,hdv,denv⟩:=cQ hys hv
     rw [Af] at hdv
     obtain ⟨l,hl,rfl⟩:∃ l,ws[i]?=some l/\bF l=dv:=by
      cases q:ws[i]? with
      | none=>rw [q] at hdv; cases hdv
      | some l=>rw [q] at hdv; exact ⟨l,rfl,Option.some.inj hdv⟩
     have s3:aE H1 (upd H2 p (.tup [u,v])):=s2.trans (aE.new hp)
     have hzip:(hs.zip ws)[i]?=some (du,l):=by rw [By]; exact ⟨hdu,hl⟩
     have enext:(((hs.zip ws).take (i+1)).map fun p=>gC p.1 p.2).map V.bl=(((hs.zip ws).take i).map fun p=>gC p.1 p.2).map V.bl++[V.bl (gC du l)]:=by
      rw [Bm,hzip]; simp
     refine ⟨p,_,rfl,SqT.of aB,rfl,_,_,rfl,_,_,rfl,rfl,?_⟩
     refine aD0 ?_
     refine ⟨_,rfl,u,du,rfl,s3.den _ _ denu,_,rfl,?_⟩
     refine cF (fun c3=>?_) (fun c3=>?_)
     ·obtain ⟨j,rfl⟩:∃ j,du=.int j:=by cases du <;> first | exact ⟨_,rfl⟩ | (exfalso; simp [fM] at c3)
      obtain rfl:=cS.mp denu
      obtain ⟨av,rfl,hav⟩:=aX.mp denv
      refine ⟨_,rfl,_,rfl,av,_,rfl,.inr (s3.seqT hav),rfl,iB l,hz,⟨_,_,rfl⟩,s3,?_⟩
      rw [enext]
      show _++[V.bl (inV (.int j) (l.map V.int))]=_
      rw [jP]
      rfl
     ·have e:gC du l=false:=by cases du <;> first | rfl | (exfalso; simp [fM] at c3)
      refine ⟨hz,⟨_,_,rfl⟩,s3,?_⟩
      rw [enext,e]
    ·rintro zs H2 ⟨s2,rfl⟩ p hp
     refine ⟨p,_,rfl,SqL.of aB,?_⟩
     have e2:(((hs.zip ws).take xs.length).map fun p=>gC p.1 p.2).all id=(hs.zip ws).all fun p=>gC p.1 p.2:=by
      rw [Bi (by rw [List.length_zip]; omega),Du]
      rfl
     rw [e2]
     exact k _ (s1.trans (s2.trans (aE.new hp)))
end
def cC (n:Int) (hs:List Int):List Int:=(cG n.toNat).map fun h=>((hs.count h:Nat):Int)
theorem xT {n i:Nat} (h:i < n):(cG n)[i]?=some (i:Int):=by
 unfold cG
 rw [Af,Dc h]
 rfl
theorem kT (n:Nat):(cG n).length=n:=by unfold cG; rw [Ac,Co]
theorem zU {X:Cx} {K:PySem.W.Frag} {o e:Expr} {es:List Expr} {to:TE} {t:TA} {name:Str} {apos cpos:Pos} {T id:String} {r:V->List V->Hp->VK->Prop} (hK:X.K=K) (pa:PlainAttrs T) (slot:Slot T name id) (hty:typeOf (.builtin id)=pure (.type "method_descriptor")) (hm:MtR X id r) (ho:PE X o to) (ha:PA X (e::es) t)
  (hbase:attributeBase o name X.env (eval o X.env)=eval o X.env:=by rfl)
  (hfew:((backTo cpos (starEach (e::es) X.env)).all (fun x=>!x.1) && (backToKw cpos (keywordEach [] X.env)).all (fun x=>x.1.isSome)
   && decide ((e::es).length+([]:List Keyword).length+(if ([]:List Keyword).isEmpty then 0 else 1) < 30))=true:=by rfl)
  (hline:(apos.endLine==cpos.line)=true:=by rfl) (hs:starEach (e::es) X.env=(false,eval e X.env)::starEach es X.env:=by rfl) (hplain:(backTo cpos (starEach es X.env)).any (·.1)=false:=by rfl) :
  PE X (.Call (.Attribute o name apos) (e::es) [] cpos) (tBM K T r to t):=by
 subst hK
 exact oZ pa slot hty hm ho ha hbase hfew hline hs hplain
section
variable {P:Program} {w:World} {K:PySem.W.Frag} {mg:Str->Option Value} {base:Heap}
variable {fW fH fK fB fNB fD fND fL:Addr} {dW dH dK dB dNB dD dND dL:FuncData}
def fY (K:PySem.W.Frag) (H:Hp) (x y:V) (n:Int) (ws:List (List Int)) (hs:List Int):Prop:=Den K H (bD n ws) x/\bU (bD n ws)=true/\Den K H (gQ hs) y/\gR ws (gQ hs)=true
theorem fY.same {H H':Hp} {x y:V} {n:Int} {ws:List (List Int)} {hs:List Int} (g:fY K H x y n ws hs) (e:aE H H'):fY K H' x y n ws hs:=⟨e.den _ _ g.1,g.2.1,e.den _ _ g.2.2.1,g.2.2.2⟩
theorem fY.len {H:Hp} {x y:V} {n:Int} {ws:List (List Int)} {hs:List Int} (g:fY K H x y n ws hs):hs.length<=12/\1<=n/\n<=6:=by
 obtain ⟨h1,h2,h3,_⟩:=bG g.2.1
 have h:(decide ((hs.map PyData.int).length=ws.length) && ((hs.map PyData.int).zip ws).all fun p=>gC p.1 p.2)=true:=g.2.2.2
 simp only [Az,decide_eq_true_eq,Ac] at h
 omega
def vV (K:PySem.W.Frag):Sp:=fun vs H Q _=>∃ x y n ws hs,vs = [x,y]/\fY K H x y n ws hs/\∀ H',aE H H'->Q .non H'
theorem aD2:FnScope ["book", "deal"] ["book", "deal"] (aH zP):=⟨rfl,rfl,rfl,by decide +kernel,rfl,by decide +kernel,by decide +kernel⟩
theorem xU (B:Bl mg) (R:Pr K mg fW fH fK fB fNB fD fND fL dW dH dK dB dNB dD dND dL):FnOk P w K mg base CX0 6 fND dND ["book", "deal"] (vV K):=by
 have OD:FnOk P w K mg base CX0 5 fD dD ["book", "thing"] (aAO K):=aCU B R
 refine R.ND.fn.ok aD2 (fun vs H Q E h=>?_) (fun cdv A outer s H vs Q E hr h=>?_)
 ·obtain ⟨x,y,n,ws,hs,rfl,_⟩:=h
  rfl
 ·obtain ⟨x,y,n,ws,hs,rfl,⟨g1,g2,g3,g4⟩,k⟩:=h
  refine ⟨_,aF (bJ (bZ (bW (aW R.D OD hr rfl (aA (pv 0) (aA (pv 1) aC))))) lD aT),?_⟩
  refine ⟨_,rfl,_,rfl,x,y,n,ws,gQ hs,rfl,g1,g2,g3,fun H' hs=>⟨_,rfl,?_⟩⟩
  rw [g4]
  refine cE ?_
  exact k H' hs
def tZ (K:PySem.W.Frag):Sp:=fun vs H Q _=>∃ (n:Int) (b:Addr) (hs:List Int),vs = [.int n,.ref b]/\SqT K H b (hs.map V.int)/\0<=n/\n<=6/\∀ p H',aE H H'->H' p=some (.tup ((cC n hs).map V.int))->Q (.ref p) H'
theorem aBG:FnScope ["hands", "deal"] ["hands", "deal"] (aH kR):=⟨rfl,rfl,rfl,by decide +kernel,rfl,by decide +kernel,by decide +kernel⟩
theorem zV {f:Addr} {fd:FuncData} (G:Fn K mg "counted" kR ["hands", "deal"] f fd) (B:Bl mg):FnOk P w K mg base CX0 1 f fd ["hands", "deal"] (tZ K):=by
 refine G.fn.ok aBG (fun vs H Q E h=>?_) (fun cdv A outer s H vs Q E hr h=>?_)
 ·obtain ⟨n,b,hs,rfl,_⟩:=h
  rfl
 ·obtain ⟨n,c,hs,rfl,hc,hn1,hn6,k⟩:=h
  refine ⟨_,aF (aQ (bH bM rfl B.tuple bT (aA
    (bO (own:=["hand"]) (fr:=[1]) (frn:=["deal"]) (aU (aH kR) ["hands", "deal"] rfl rfl (by decide +kernel)) rfl (eE rfl B.range (aA (pv 0) aC))
     (fun _ _ _ _=>aI (i:=0) (show (["hand", "deal"]:List Str).Nodup by decide +kernel) rfl (Or.inl rfl)) (fun _ _ _ _=>cT)
     (fun _ _ _ _=>zU (K:=K) rfl PySem.F.plainAttrs_tuple PySem.F.slot_tuple_count PySem.F.type_tuple_count (zT (K:=K) rfl) (pv 1) (aA (pv 0) aC))) aC))),?_⟩
  refine ⟨_,rfl,n,rfl,by omega,by omega,fQ (lo:=0) (n:=n.toNat) (fun σ=>∃ v,σ = [v,some (.ref c)]) (fun i zs H2=>H2=H/\zs=(((cG n.toNat).take i).map fun h=>((hs.count h:Nat):Int)).map V.int) ?_ ⟨none,rfl⟩ ⟨rfl,rfl⟩ ?_ ?_ ?_⟩
  ·rw [sizeLine_eq]; omega
  ·rintro i zs H2 ⟨_,rfl⟩
   rw [Ac,Ac,Ax]; omega
  ·rintro i zs σ H2 hi ⟨v,rfl⟩ ⟨rfl,rfl⟩ hz
   refine cW ?_
   refine ⟨_,rfl,.inr (.inl ⟨rfl,_,hc⟩),_,rfl,c,hs,_,rfl,rfl,hc,hz,⟨_,rfl⟩,rfl,?_⟩
   rw [Bm,xT hi]
   simp
  ·rintro zs H2 ⟨rfl,rfl⟩ p hp
   refine ⟨p,_,rfl,.inl ⟨SqL.of aB,fun l hl=>?_⟩⟩
   refine k l _ ((aE.new hp).trans (aE.new hl)) ?_
   rw [aB,Bi (by rw [kT]; exact Ai _)]
   rfl
def vW (K:PySem.W.Frag):Sp:=fun vs H Q _=>∃ x y n ws hs,vs = [x,y]/\fY K H x y n ws hs/\∀ p H',aE H H'->H' p=some (.tup ((cC n hs).map V.int))->Q (.ref p) H'
theorem aD3:FnScope ["book", "deal"] ["book", "deal"] (aH zR):=⟨rfl,rfl,rfl,by decide +kernel,rfl,by decide +kernel,by decide +kernel⟩
theorem xV (B:Bl mg) (R:Pr K mg fW fH fK fB fNB fD fND fL dW dH dK dB dNB dD dND dL):FnOk P w K mg base CX0 7 fL dL ["book", "deal"] (vW K):=by
 have ON:FnOk P w K mg base CX0 6 fND dND ["book", "deal"] (vV K):=xU B R
 obtain ⟨fC,dC,GC⟩:=R.C
 have OC:FnOk P w K mg base CX0 1 fC dC ["hands", "deal"] (tZ K):=zV GC B
 refine R.L.fn.ok aD3 (fun vs H Q E h=>?_) (fun cdv A outer s H vs Q E hr h=>?_)
 ·obtain ⟨x,y,n,ws,hs,rfl,_⟩:=h
  rfl
 ·obtain ⟨x,y,n,ws,hs,rfl,g,k⟩:=h
  have r1:Room 1 _:=hr.mono (by decide)
  refine ⟨_,aD (dZ (aW R.ND ON hr rfl (aA (pv 0) (aA (pv 1) aC))))
   (aF (aQ (aW GC OC r1 rfl (aA (bA bK (pv 0) aG (fun _ _=>rfl)) (aA (pv 1) aC))))),?_⟩
  refine ⟨_,rfl,_,rfl,x,y,n,ws,hs,rfl,g,fun H1 s1=>?_⟩
  have g1:=g.same s1
  obtain ⟨hl,hn1,hn6⟩:=g.len
  obtain ⟨a,b,ys,rfl,ha,hb2,hys⟩:=cR g1.1
  obtain ⟨c,rfl,hc⟩:=aX.mp g1.2.2.1
  refine ⟨_,rfl,a,_,0,.int n,rfl,rfl,ha,rfl,_,rfl,n,c,hs,rfl,hc,by omega,hn6,fun p H2 s2 hp=>?_⟩
  exact k p H2 (s1.trans s2) hp
theorem mB (n:Int) (hs:List Int):(cC n hs).length=n.toNat:=by unfold cC; rw [Ac,kT]
theorem vX {n:Int} {hs:List Int} {l:Int} (h:l∈cC n hs):0<=l/\l<=hs.length:=by
 unfold cC at h
 obtain ⟨i,_,rfl⟩:=Bd.mp h
 have:=De (a:=i) (l:=hs)
 omega
end
def But (t:Addr) (H H':Hp):Prop:=∀ b o,b≠t->H b=some o->H' b=some o
theorem But.refl (t:Addr) (H:Hp):But t H H:=fun _ _ _ h=>h
theorem But.trans {t:Addr} {H H1 H2:Hp} (a:But t H H1) (b:But t H1 H2):But t H H2:=fun c o n h=>b c o n (a c o n h)
theorem But.of {t:Addr} {H H':Hp} (a:aE H H'):But t H H':=fun c o _ h=>a c o h
theorem But.at {t:Addr} {H:Hp} {u:HO}:But t H (upd H t u):=fun c o n h=>by rw [aJ n]; exact h
theorem But.free {t:Addr} {H H':Hp} (e:But t H H') {l:Addr} (h:H' l=none) (n:l≠t):H l=none:=by
 cases q:H l with
 | none=>rfl
 | some o=>rw [e l o n q] at h; cases h
theorem But.rdL {t a:Addr} {H H':Hp} {xs:List V} (e:But t H H') (n:a≠t) (h:Rd H a (.lst xs)):Rd H' a (.lst xs):=by
 rcases h with h | ⟨o,h⟩
 ·exact .inl (e a _ n h)
 ·exact .inr ⟨o,e a _ n h⟩
section
variable {K:PySem.W.Frag} {t:Addr} {H H':Hp} {ys:List V}
theorem But.seqT {a:Addr} {xs:List V} (e:But t H H') (ht:H t=some (.lst ys)) (h:SqT K H a xs):SqT K H' a xs:=by
 rcases h with (h | ⟨o,h⟩) | h
 ·exact .inl (.inl (e a _ (fun z=>by rw [z,ht] at h; cases h) h))
 ·exact .inl (.inr ⟨o,e a _ (fun z=>by rw [z,ht] at h; cases h) h⟩)
 ·exact .inr h
theorem But.seqL {a:Addr} {xs:List V} (e:But t H H') (n:a≠t) (h:SqL K H a xs):SqL K H' a xs:=by
 rcases h with h | h
 ·exact .inl (e.rdL n h)
 ·exact .inr h
mutual
def fT:PyData->Bool
 | .dict _=>false
 | .list _=>false
 | .tuple ds=>gL ds
 | _=>true
def gL:List PyData->Bool
 | []=>true
 | d::ds=>fT d && gL ds
end
mutual
theorem But.den (e:But t H H') (ht:H t=some (.lst ys)):∀ (d:PyData) (v:V),fT d=true->Den K H d v->Den K H' d v
 | .none,v,_,h=>by unfold Den at h ⊢; exact h
 | .bool b,v,_,h=>by unfold Den at h ⊢; exact h
 | .int i,v,_,h=>by unfold Den at h ⊢; exact h
 | .str x,v,_,h=>by unfold Den at h ⊢; exact h
 | .list ds,v,n,h=>by unfold fT at n; cases n
 | .tuple ds,v,n,h=>by unfold fT at n; unfold Den at h ⊢; obtain ⟨a,xs,h1,h2,h3⟩:=h; exact ⟨a,xs,h1,e.seqT ht h2,But.denAll e ht ds xs n h3⟩
 | .dict kvs,v,n,h=>by unfold fT at n; cases n
theorem But.denAll (e:But t H H') (ht:H t=some (.lst ys)):∀ (ds:List PyData) (xs:List V),gL ds=true->aZ K H ds xs->aZ K H' ds xs
 | [],xs,_,h=>by unfold aZ at h ⊢; exact h
 | d::ds,xs,n,h=>by
  unfold gL at n; rw [Az] at n
  unfold aZ at h ⊢; obtain ⟨x,r,h1,h2,h3⟩:=h; exact ⟨x,r,h1,But.den e ht d x n.1 h2,But.denAll e ht ds r n.2 h3⟩
end
end
theorem cP {α:Type} (f:α->PyData) (h:∀ x,fT (f x)=true):∀ l:List α,gL (l.map f)=true
 | []=>by unfold List.map gL; rfl
 | x::r=>by rw [Ba]; unfold gL; rw [h x,cP f h r]; rfl
theorem rM (i:Int):fT (.int i)=true:=by unfold fT; rfl
theorem cV (l:List Int):fT (bF l)=true:=by unfold bF fT; exact cP _ rM l
theorem xW (l:List Int):fT (gQ l)=true:=cV l
theorem kU (n:Int) (ws:List (List Int)):fT (bD n ws)=true:=by
 unfold bD fT gL
 rw [rM]
 unfold gL fT
 rw [cP _ cV ws]
 unfold gL
 rfl
def gS (K:PySem.W.Frag) (H:Hp) (t a:Addr) (ns:List Int):Prop:=(∃ p q:Int,0<=p/\H t=some (.lst [.ref a,.int p,.int q]))/\SqL K H a (ns.map V.int)
theorem gS.same {K:PySem.W.Frag} {H H':Hp} {t a:Addr} {ns:List Int} (h:gS K H t a ns) (e:aE H H'):gS K H' t a ns:=by
 obtain ⟨⟨p,q,h1,h2⟩,h3⟩:=h
 exact ⟨⟨p,q,h1,e t _ h2⟩,e.seqL h3⟩
theorem gS.den {K:PySem.W.Frag} {H H':Hp} {t a:Addr} {ns:List Int} (h:gS K H t a ns) (e:But t H H') {d:PyData} {v:V} (n:fT d=true) (hd:Den K H d v):Den K H' d v:=by
 obtain ⟨⟨p,q,h1,h2⟩,h3⟩:=h
 exact e.den h2 d v n hd
theorem gS.seqT {K:PySem.W.Frag} {H H':Hp} {t a:Addr} {ns:List Int} (h:gS K H t a ns) (e:But t H H') {b:Addr} {xs:List V} (hd:SqT K H b xs):SqT K H' b xs:=by
 obtain ⟨⟨p,q,h1,h2⟩,h3⟩:=h
 exact e.seqT h2 hd
theorem gS.ne {K:PySem.W.Frag} {H:Hp} {t a:Addr} {ns:List Int} (h:gS K H t a ns) {b:Addr} (hb:H b=none):b≠t:=by
 obtain ⟨⟨p,q,h1,h2⟩,h3⟩:=h
 intro z
 rw [z,h2] at hb
 cases hb
theorem zW {ns:List Int} {xs:List V} {a:Addr} {r:List V} (h:ns.map V.int=.ref a::r):False:=by
 cases ns with
 | nil=>cases h
 | cons _ _=>rw [Ba] at h; cases h
theorem eZ {K:PySem.W.Frag} {H:Hp} {t a:Addr} {ns:List Int} {p q:Int} {u:HO} (h2:H t=some (.lst [.ref a,.int p,.int q])) (h:SqL K H a (ns.map V.int)):SqL K (upd H t u) a (ns.map V.int):=by
 rcases h with (h | ⟨o,h⟩) | h
 ·have n:a≠t:=fun z=>by
   rw [z,h2] at h
   injection h with h
   injection h with h
   exact zW (xs:=[]) h.symm
  exact .inl (.inl (by rw [aJ n]; exact h))
 ·have n:a≠t:=fun z=>by
   rw [z,h2] at h
   cases h
  exact .inl (.inr ⟨o,by rw [aJ n]; exact h⟩)
 ·exact .inr h
section
variable {P:Program} {w:World} {K:PySem.W.Frag} {mg:Str->Option Value} {base:Heap}
theorem dX (ns:List Int):cA (.list (ns.map .int))=true:=by
 unfold cA
 induction ns with
 | nil=>unfold List.map eS; rfl
 | cons n r ih=>rw [Ba]; unfold eS; rw [ih]; unfold cA; rfl
theorem iJ {α:Type} (f:α->PyData) (h:∀ x,(f x).canLay0=true):∀ l:List α,PyData.canLayAll0 (l.map f)=true
 | []=>by unfold List.map PyData.canLayAll0; rfl
 | x::r=>by rw [Ba]; unfold PyData.canLayAll0; rw [h x,iJ f h r]; rfl
theorem jF {α:Type} {k:Nat} (f:α->PyData) (h:∀ x,(f x).depth<=k):∀ l:List α,PyData.depthAll (l.map f)<=k
 | []=>by unfold List.map PyData.depthAll; exact Bo _
 | x::r=>by rw [Ba]; unfold PyData.depthAll; exact Nat.max_le.mpr ⟨h x,jF f h r⟩
theorem mR (i:Int):(PyData.int i).canLay0=true:=by unfold PyData.canLay0; rfl
theorem oO (i:Int):(PyData.int i).depth<=0:=by unfold PyData.depth; exact Ai _
theorem vY (ns:List Int):(PyData.list (ns.map .int)).canLay0=true:=by unfold PyData.canLay0; exact iJ _ mR ns
theorem hU (ns:List Int):(PyData.tuple (ns.map .int)).canLay0=true:=by unfold PyData.canLay0; exact iJ _ mR ns
theorem xX (ns:List Int):(PyData.list (ns.map .int)).depth<=1:=by unfold PyData.depth; exact Cs (jF _ oO ns)
theorem kW (ns:List Int):(PyData.tuple (ns.map .int)).depth<=1:=by unfold PyData.depth; exact Cs (jF _ oO ns)
theorem jG {d:PyData} (h1:d.canLay0=true) (h2:d.depth<=64):SeqAt.shaped d=true:=by
 unfold SeqAt.shaped
 rw [h1,decide_eq_true h2]
 rfl
theorem eP (ns:List Int):SeqAt.shaped (.list (ns.map .int))=true:=jG (vY ns) (At (xX ns) (by decide))
theorem nQ (ns:List Int):SeqAt.shaped (.tuple (ns.map .int))=true:=jG (hU ns) (At (kW ns) (by decide))
theorem jR (ns:List Int):cA (.tuple (ns.map .int))=true:=by
 have h:=dX ns
 unfold cA at h ⊢
 exact h
def aCV:Sp:=fun vs H Q _=>∃ c a:Int,vs = [.int c,.int a]/\∀ r,Q (.int r) H
theorem vZ:FnScope ["cell", "at", "first", "second", "third"] ["cell", "at"] (aH aAK):=⟨rfl,rfl,rfl,by decide +kernel,rfl,by decide +kernel,by decide +kernel⟩
theorem aD4 {f:Addr} {fd:FuncData} (G:Fn K mg "_law_b_stirred" aAK ["cell", "at"] f fd):FnOk P w K mg base CX0 1 f fd ["cell", "at"] aCV:=by
 refine G.fn.ok vZ (fun vs H Q E h=>?_) (fun cdv A outer s H vs Q E hr h=>?_)
 ·obtain ⟨c,a,rfl,_⟩:=h
  rfl
 ·obtain ⟨c,a,rfl,k⟩:=h
  refine ⟨_,aD (bJ (aL qI (pv 0) (bC aEL aG aG) (aN _)) (aF (aQ (pv 0))) aT)
   (aD (aV (i:=2) vZ.nd rfl (Or.inl rfl) (bC kE (bC eI (bC eI (bC iV (bC kE (pv 0) aG) aG) (bC iV (pv 1) aG)) aG) aG))
   (aD (aV (i:=3) vZ.nd rfl (Or.inl rfl) (bC kE (bC eI (bC eI (bC iV (pv 2) (pv 2)) (bC iV aG (pv 1))) aG) aG))
   (aD (aV (i:=4) vZ.nd rfl (Or.inl rfl) (bC kE (bC eI (bC eI (bC iV (pv 3) (pv 3)) (bC iV aG (pv 2))) (pv 1)) aG))
   (aF (aQ (bC eI (bC iV (pv 3) aG) (pv 4))))))),?_⟩
  refine ⟨_,rfl,_,_,rfl,rfl,⟨by decide,by decide,by decide⟩,_,_,rfl,rfl,_,rfl,?_⟩
  refine cF (fun c1=>?_) (fun c1=>?_)
  ·exact ⟨_,rfl,k _⟩
  ·refine ⟨_,rfl,_,_,rfl,rfl,(show (0:Int) < _ by decide),_,_,rfl,rfl,.inr ⟨by decide,by decide⟩,_,rfl,_,_,rfl,rfl,.inr ⟨by decide,by decide⟩,_,_,rfl,rfl,_,_,rfl,rfl,_,_,rfl,rfl,(show (0:Int) < _ by decide),?_⟩
   generalize hf:((c % 2147483629*43591+a*6661+353) % 2147483587:Int)=f1
   have b1:0<=f1/\f1 < 2147483587:=by rw [<- hf]; exact ⟨Cr _ (by decide),Cl _ (by decide)⟩
   refine ⟨_,rfl,_,rfl,_,_,rfl,rfl,.inl ⟨by omega,by omega⟩,_,rfl,_,_,rfl,rfl,.inl ⟨by decide,by decide⟩,_,_,rfl,rfl,_,_,rfl,rfl,_,_,rfl,rfl,(show (0:Int) < _ by decide),?_⟩
   generalize hg:((f1*f1+727*a+89) % 2147483579:Int)=f2
   have b2:0<=f2/\f2 < 2147483579:=by rw [<- hg]; exact ⟨Cr _ (by decide),Cl _ (by decide)⟩
   refine ⟨_,rfl,_,rfl,_,_,rfl,rfl,.inl ⟨by omega,by omega⟩,_,rfl,_,_,rfl,rfl,.inl ⟨by decide,by decide⟩,_,_,rfl,rfl,_,rfl,_,_,rfl,rfl,_,_,rfl,rfl,(show (0:Int) < _ by decide),?_⟩
   exact ⟨_,rfl,_,_,rfl,rfl,.inr ⟨by decide,by decide⟩,_,rfl,_,_,rfl,rfl,k _⟩
def lJ (K:PySem.W.Frag):Sp:=fun vs H Q _=>∃ (t a:Addr) (ns:List Int) (m:Int),vs = [.ref t,.int m]/\gS K H t a ns/\0 < m/\m < 1267650600228229401496703205376/\∀ r H',0<=r->r < m->But t H H'->gS K H' t a ns->Q (.int r) H'
theorem _root_.L2.Room.u64 {k:Nat} {A:Around} (r:Room k A):A.units+64 < cLine:=by have:=r.un; omega
theorem lK:FnScope ["tape", "many", "at", "cell", "found"] ["tape", "many"] (aH mQ):=⟨rfl,rfl,rfl,by decide +kernel,rfl,by decide +kernel,by decide +kernel⟩
theorem aCW {f fS:Addr} {fd fdS:FuncData} (G:Fn K mg "_law_b_digit" mQ ["tape", "many"] f fd) (B:Bl mg) (GS:Fn K mg "_law_b_stirred" aAK ["cell", "at"] fS fdS):FnOk P w K mg base CX0 2 f fd ["tape", "many"] (lJ K):=by
 have OS:FnOk P w K mg base CX0 1 fS fdS ["cell", "at"] aCV:=aD4 GS
 refine G.fn.ok lK (fun vs H Q E h=>?_) (fun cdv A outer s H vs Q E hr h=>?_)
 ·obtain ⟨t,a,ns,m,rfl,_⟩:=h
  rfl
 ·obtain ⟨t,a,ns,m,rfl,⟨⟨p,q,hp,ht⟩,hns⟩,hm1,hm2,k⟩:=h
  refine ⟨_,aD (bJ (aL oX (bA cI (pv 0) aG (fun _ _=>rfl)) (pv 1) (aN _))
    (aD (aV (i:=2) lK.nd rfl (Or.inl rfl) (bA cI (pv 0) aG (fun _ _=>rfl)))
    (aD (aV (i:=3) lK.nd rfl (Or.inl rfl) (bC eI (bC iV aG (pv 2)) aG))
    (aD (bJ (aL oX (pv 2) (aK aM rfl B.len cY (aA (bA cI (pv 0) aG (fun _ _=>rfl)) aC)) (aN _))
      (aF (aV (i:=3) lK.nd rfl (Or.inl rfl) (bA cI (bA cI (pv 0) aG (fun _ _=>rfl)) (pv 2) (fun _ _=>rfl))))
      (aF (bJ (aL (zE hr.u64) (bA cI (pv 0) aG (fun _ _=>rfl)) (eV aC) (aN _))
       (aF (aV (i:=3) lK.nd rfl (Or.inl rfl) (bC eI (bC kE (bA cI (bA cI (pv 0) aG (fun _ _=>rfl)) (bC kE (bC iV (pv 2) aG) (aK aM rfl B.len cY (aA (bA cI (pv 0) aG (fun _ _=>rfl)) aC))) (fun _ _=>rfl)) aG) (bC iV (pv 2) aG))))
       aT)))
    (aD (fZ (bC eI (pv 2) aG) (oA (pv 0) aG jA))
    (aF (fZ (aW GS OS hr rfl (aA (pv 3) (aA (pv 2) aC))) (oA (pv 0) aG jA)))))))
    aT)
   (aD (aV (i:=4) lK.nd rfl (Or.inl rfl) (bC kE (bA cI (pv 0) aG (fun _ _=>rfl)) (pv 1)))
   (aD (fZ (bC aCk (bA cI (pv 0) aG (fun _ _=>rfl)) (pv 1)) (oA (pv 0) aG jA))
   (aF (aQ (pv 4))))),?_⟩
  refine ⟨_,rfl,t,_,2,.int q,rfl,rfl,SqL.of ht,rfl,_,rfl,_,_,rfl,rfl,_,rfl,?_⟩
  refine cF (fun c1=>?_) (fun c1=>?_)
  ·refine ⟨_,rfl,t,_,1,.int p,rfl,rfl,SqL.of ht,rfl,?_⟩
   refine ⟨_,rfl,_,_,rfl,rfl,.inl ⟨by decide,by decide⟩,_,_,rfl,rfl,?_⟩
   refine ⟨_,rfl,_,rfl,t,_,0,.ref a,rfl,rfl,SqL.of ht,rfl,a,_,rfl,.inl hns,_,_,rfl,rfl,_,rfl,?_⟩
   refine cF (fun c2=>?_) (fun c2=>?_)
   ·have c2':p < ((ns.map V.int).length:Int):=of_decide_eq_true c2
    rw [Ac] at c2'
    have hlt:p.toNat < ns.length:=by omega
    have hat:atI (ns.map V.int) p=some (.int (ns[p.toNat])):=by
     have h1:(ns.map V.int)[p.toNat]?=some (.int (ns[p.toNat])):=by rw [Af,Ae hlt]; rfl
     have h2:=dJ h1
     rwa [Eb hp] at h2
    refine ⟨_,rfl,t,_,0,.ref a,rfl,rfl,SqL.of ht,rfl,_,rfl,a,_,_,_,rfl,rfl,hns,hat,?_⟩
    refine ⟨_,rfl,_,_,rfl,rfl,_,rfl,t,_,_,1,rfl,rfl,ht,rfl,?_⟩
    refine ⟨_,rfl,_,rfl,_,_,rfl,fun r=>⟨_,rfl,t,_,_,2,rfl,rfl,aB,rfl,?_⟩⟩
    refine ⟨_,rfl,t,_,2,.int r,rfl,rfl,SqL.of aB,rfl,_,rfl,_,_,rfl,rfl,hm1,?_⟩
    refine ⟨_,rfl,t,_,2,.int r,rfl,rfl,SqL.of aB,rfl,_,rfl,_,_,rfl,rfl,⟨hm1,hm2⟩,_,rfl,t,_,_,2,rfl,rfl,aB,rfl,?_⟩
    exact ⟨_,rfl,k _ _ (Cr _ (by omega)) (Cl _ hm1) ((But.refl t H).trans (But.at.trans (But.at.trans But.at))) ⟨⟨p+1,r / m,by omega,aB⟩,eZ (p:=p+1) (q:=r) aB (eZ (p:=p+1) (q:=q) aB (eZ ht hns))⟩⟩
   ·refine ⟨_,rfl,t,_,0,.ref a,rfl,rfl,SqL.of ht,rfl,by decide,fun l hl=>?_⟩
    have ntl:t≠l:=fun z=>by rw [<- z,ht] at hl; cases hl
    have ht':upd H l (.lst []) t=some (.lst [.ref a,.int p,.int q]):=by rw [aJ ntl]; exact ht
    have hns':SqL K (upd H l (.lst [])) a (ns.map V.int):=(aE.new hl).seqL hns
    have bl:But t H (upd H l (.lst [])):=But.of (aE.new hl)
    refine ⟨.list (ns.map .int),.list [],gG.mpr ⟨a,rfl,hns'⟩,kM.mpr ⟨l,[],rfl,SqL.of aB,aY.mpr rfl⟩,dX ns,rfl,eP ns,rfl,_,rfl,?_⟩
    refine cF (fun c3=>?_) (fun c3=>?_)
    ·have hpos:0 < ns.length:=by
      cases ns with
      | nil=>simp [PyData.eqv,PyData.eqvAll] at c3
      | cons _ _=>simp
     have hlt:(p*3 % (ns.length:Int)).toNat < ns.length:=by
      have:=Cr (p*3) (show (ns.length:Int)≠0 by omega)
      have:=Cl (p*3) (show (0:Int) < ns.length by omega)
      omega
     have hat:atI (ns.map V.int) (p*3 % ((ns.map V.int).length:Int))=some (.int (ns[(p*3 % (ns.length:Int)).toNat])):=by
      have h1:(ns.map V.int)[(p*3 % (ns.length:Int)).toNat]?=some (.int (ns[(p*3 % (ns.length:Int)).toNat])):=by rw [Af,Ae hlt]; rfl
      have h2:=dJ h1
      rw [Ac]
      rwa [Eb (Cr _ (by omega))] at h2
     refine ⟨_,rfl,t,_,0,.ref a,rfl,rfl,SqL.of ht',rfl,_,rfl,_,_,rfl,rfl,.inr ⟨by decide,by decide⟩,_,rfl,t,_,0,.ref a,rfl,rfl,SqL.of ht',rfl,a,_,rfl,.inl hns',_,_,rfl,rfl,(show (0:Int) < ((ns.map V.int).length:Int) by rw [Ac]; omega),a,_,_,_,rfl,rfl,hns',hat,_,_,rfl,rfl,(show (0:Int) < _ by decide),_,rfl,_,_,rfl,rfl,.inr ⟨by decide,by decide⟩,_,_,rfl,rfl,?_⟩
     refine ⟨_,rfl,_,_,rfl,rfl,_,rfl,t,_,_,1,rfl,rfl,ht',rfl,?_⟩
     refine ⟨_,rfl,_,rfl,_,_,rfl,fun r=>⟨_,rfl,t,_,_,2,rfl,rfl,aB,rfl,?_⟩⟩
     refine ⟨_,rfl,t,_,2,.int r,rfl,rfl,SqL.of aB,rfl,_,rfl,_,_,rfl,rfl,hm1,?_⟩
     refine ⟨_,rfl,t,_,2,.int r,rfl,rfl,SqL.of aB,rfl,_,rfl,_,_,rfl,rfl,⟨hm1,hm2⟩,_,rfl,t,_,_,2,rfl,rfl,aB,rfl,?_⟩
     exact ⟨_,rfl,k _ _ (Cr _ (by omega)) (Cl _ hm1) (bl.trans (But.at.trans (But.at.trans But.at))) ⟨⟨p+1,r / m,by omega,aB⟩,eZ (p:=p+1) (q:=r) aB (eZ (p:=p+1) (q:=q) aB (eZ ht' hns'))⟩⟩
    ·show _
     refine ⟨_,rfl,_,_,rfl,rfl,_,rfl,t,_,_,1,rfl,rfl,ht',rfl,?_⟩
     refine ⟨_,rfl,_,rfl,_,_,rfl,fun r=>⟨_,rfl,t,_,_,2,rfl,rfl,aB,rfl,?_⟩⟩
     refine ⟨_,rfl,t,_,2,.int r,rfl,rfl,SqL.of aB,rfl,_,rfl,_,_,rfl,rfl,hm1,?_⟩
     refine ⟨_,rfl,t,_,2,.int r,rfl,rfl,SqL.of aB,rfl,_,rfl,_,_,rfl,rfl,⟨hm1,hm2⟩,_,rfl,t,_,_,2,rfl,rfl,aB,rfl,?_⟩
     exact ⟨_,rfl,k _ _ (Cr _ (by omega)) (Cl _ hm1) (bl.trans (But.at.trans (But.at.trans But.at))) ⟨⟨p+1,r / m,by omega,aB⟩,eZ (p:=p+1) (q:=r) aB (eZ (p:=p+1) (q:=q) aB (eZ ht' hns'))⟩⟩
  ·show _
   refine ⟨_,rfl,t,_,2,.int q,rfl,rfl,SqL.of ht,rfl,_,rfl,_,_,rfl,rfl,hm1,?_⟩
   refine ⟨_,rfl,t,_,2,.int q,rfl,rfl,SqL.of ht,rfl,_,rfl,_,_,rfl,rfl,⟨hm1,hm2⟩,_,rfl,t,_,_,2,rfl,rfl,ht,rfl,?_⟩
   exact ⟨_,rfl,k _ _ (Cr _ (by omega)) (Cl _ hm1) (But.at) ⟨⟨p,q / m,by omega,aB⟩,eZ ht hns⟩⟩
theorem xY (n:Int):∀ (l:List Int) (last:Int),(∀ x∈l,last < x)->l.Pairwise (· < ·)->(∀ x∈l,x < n)->eJ n last (l.map .int)=true
 | [],_,_,_,_=>rfl
 | x::r,last,h1,h2,h3=>by
  rw [Ba,gY]
  have h2':=Bt.mp h2
  rw [decide_eq_true (h1 x (Ao ..)),decide_eq_true (h3 x (Ao ..)),xY n r x h2'.1 h2'.2 (fun y hy=>h3 y (Av _ hy))]
  rfl
theorem hV {n:Int} {l:List Int} (h0:l≠[]) (h1:∀ x∈l,0<=x/\x < n) (h2:l.Pairwise (· < ·)):cB n (bF l)=true:=by
 have e:cB n (bF l)=(!(l.map PyData.int).isEmpty && eJ n (-1) (l.map .int)):=rfl
 rw [e,xY n l (-1) (fun x hx=>by have:=(h1 x hx).1; omega) h2 (fun x hx=>(h1 x hx).2)]
 cases l with
 | nil=>exact absurd rfl h0
 | cons _ _=>rfl
theorem pI (n:Int):∀ (l:List Int) (last:Int),eJ n last (l.map .int)=true->l.Pairwise (· < ·)/\∀ x∈l,last < x/\x < n
 | [],_,_=>⟨.nil,fun _ h=>by cases h⟩
 | x::r,last,h=>by
  rw [Ba,gY,Az,Az] at h
  obtain ⟨⟨h1,h2⟩,h3⟩:=h
  have h1:=of_decide_eq_true h1
  have h2:=of_decide_eq_true h2
  obtain ⟨i1,i2⟩:=pI n r x h3
  refine ⟨Bt.mpr ⟨fun y hy=>(i2 y hy).1,i1⟩,fun y hy=>?_⟩
  rcases Am.mp hy with rfl | hy
  ·exact ⟨h1,h2⟩
  ·exact ⟨by have:=(i2 y hy).1; omega,(i2 y hy).2⟩
theorem bL {n:Int} {l:List Int} (h:cB n (bF l)=true):l≠[]/\(∀ x∈l,0<=x/\x < n)/\l.Pairwise (· < ·):=by
 have e:(!(l.map PyData.int).isEmpty && eJ n (-1) (l.map .int))=true:=h
 rw [Az] at e
 obtain ⟨h1,h2⟩:=pI n l (-1) e.2
 refine ⟨fun z=>by rw [z] at e; simp at e,fun x hx=>⟨by have:=(h2 x hx).1; omega,(h2 x hx).2⟩,h1⟩
theorem rN {n:Int}:∀ (l:List Int) (lo:Int),lo<=n->(∀ x∈l,lo<=x/\x < n)->l.Pairwise (· < ·)->(l.length:Int)<=n - lo
 | [],lo,h,_,_=>by simp; omega
 | x::r,lo,h,h1,h2=>by
  have h2':=Bt.mp h2
  have hx:=h1 x (Ao ..)
  have:=rN r (x+1) (by omega) (fun y hy=>⟨by have:=h2'.1 y hy; omega,(h1 y (Av _ hy)).2⟩) h2'.2
  rw [Bg]
  omega
theorem eQ {n:Int} {l:List Int} (hn:0<=n) (h1:∀ x∈l,0<=x/\x < n) (h2:l.Pairwise (· < ·)):(l.length:Int)<=n:=by
 have:=rN l 0 hn h1 h2
 omega
theorem aCX {n:Nat} {x:Int}:x∈cG n↔0<=x/\x < n:=by
 unfold cG
 rw [Bd]
 constructor
 ·rintro ⟨i,hi,rfl⟩
  have:=Br.mp hi
  show 0<=(i:Int)/\(i:Int) < n
  omega
 ·rintro ⟨h1,h2⟩
  exact ⟨x.toNat,Br.mpr (by omega),by show ((x.toNat:Nat):Int)=x; omega⟩
theorem zX (n:Nat):(cG n).Pairwise (· < ·):=by
 unfold cG
 rw [List.pairwise_map]
 refine Ei.imp fun h=>?_
 show ((_:Nat):Int) < ((_:Nat):Int)
 omega
theorem aBH {a b:Nat}:(mL a b).Pairwise (· < ·)/\mL a b≠[]/\∀ x∈mL a b,x=(a:Int)∨x=(b:Int):=by
 unfold mL
 split
 ·exact ⟨by simp,by simp,fun x hx=>by simp at hx; exact .inl hx⟩
 ·split
  ·refine ⟨?_,by simp,fun x hx=>by simpa using hx⟩
   rw [Bt]
   exact ⟨fun y hy=>by simp at hy; omega,by simp⟩
  ·refine ⟨?_,by simp,fun x hx=>by simp at hx; exact hx.symm⟩
   rw [Bt]
   exact ⟨fun y hy=>by simp at hy; omega,by simp⟩
theorem aAQ {X:Cx} (hK:X.K=K) (hu:X.A.units+64 < cLine):OpR X (compareOp .Eq) (fun x y H Q=>∃ d e,Den K H d x/\Den K H e y/\cA d=true/\cA e=true/\SeqAt.shaped d=true/\SeqAt.shaped e=true/\Q (.bl (PyData.eqv d e)) H):=by subst hK; exact zD hu
theorem kX:∀ (a b:List Int),PyData.eqvAll (a.map .int) (b.map .int)=decide (a=b)
 | [],[]=>by simp [PyData.eqvAll]
 | [],_::_=>by simp [PyData.eqvAll]
 | _::_,[]=>by simp [PyData.eqvAll]
 | x::r,y::s=>by
  rw [Ba,Ba,PyData.eqvAll,kX r s,PyData.eqv]
  by_cases h:x=y
  ·by_cases h2:r=s
   ·simp [h,h2]
   ·simp [h,h2]
  ·simp [h]
theorem oP (a b:List Int):PyData.eqv (.list (a.map .int)) (.list (b.map .int))=decide (a=b):=by rw [PyData.eqv,kX]
theorem uA (a b:List Int):PyData.eqv (.tuple (a.map .int)) (.tuple (b.map .int))=decide (a=b):=by rw [PyData.eqv,kX]
theorem sz1 (x:V) : [x].length<=sizeLine:=by rw [sizeLine_eq]; simp
theorem sz2 (x y:V) : [x,y].length<=sizeLine:=by rw [sizeLine_eq]; simp
theorem cZ {n:Nat} (h:n<=1000):n<=sizeLine:=by rw [sizeLine_eq]; omega
def zY (K:PySem.W.Frag):Sp:=fun vs H Q _=>∃ (t a:Addr) (ns:List Int) (n kd:Int),vs = [.ref t,.int n,.int kd]/\gS K H t a ns/\1<=n/\n<=6/\∀ l p H',cB n (bF l)=true->But t H H'->gS K H' t a ns->SqT K H' p (l.map V.int)->Q (.ref p) H'
theorem rO:FnScope ["tape", "hands", "kind", "first", "often", "some"] ["tape", "hands", "kind"] (aH tY):=⟨rfl,rfl,rfl,by decide +kernel,rfl,by decide +kernel,by decide +kernel⟩
theorem aD5 {f fD:Addr} {fd fdD:FuncData} (G:Fn K mg "_law_b_work" tY ["tape", "hands", "kind"] f fd) (B:Bl mg) (GD:Fn K mg "_law_b_digit" mQ ["tape", "many"] fD fdD) (OD:FnOk P w K mg base CX0 2 fD fdD ["tape", "many"] (lJ K)):FnOk P w K mg base CX0 3 f fd ["tape", "hands", "kind"] (zY K):=by
 refine G.fn.ok rO (fun vs H Q E h=>?_) (fun cdv A outer s H vs Q E hr h=>?_)
 ·obtain ⟨t,a,ns,n,kd,rfl,_⟩:=h
  rfl
 ·obtain ⟨t,a,ns,n,kd,rfl,hT,hn1,hn6,k⟩:=h
  refine ⟨_,aD (aV (i:=3) rO.nd rfl (Or.inr rfl) (aW GD OD hr rfl (aA (pv 0) (aA (pv 1) aC))))
   (aD (bJ (aL iC (pv 2) aG (aN _)) (aF (aQ (bX (aA (pv 3) aC)))) aT)
   (aD (bJ (aL iC (pv 2) aG (aN _)) (aF (aQ (bH bM rfl B.tuple bT (aA (aK (pM rfl) rfl B.sorted xR (aA (bH (aBh rfl) rfl B.set aCO (aA (eV (aA (pv 3) (aA (bC kE (bC eI (pv 3) aG) (pv 1)) aC))) aC)) aC)) aC)))) aT)
   (aD (bJ (aL iC (pv 2) aG (aN _)) (aF (aQ (bH (qO rfl) rfl B.tuple bT (aA (bH wT rfl B.range aDX (aA (pv 1) aC)) aC)))) aT)
   (aD (aV (i:=4) rO.nd rfl (Or.inr rfl) (bC eI aG (aW GD OD hr rfl (aA (pv 0) (aA aG aC)))))
   (aD (aV (i:=5) rO.nd rfl (Or.inr rfl)
    (bO (own:=["hand"]) (fr:=[3,4,0]) (frn:=["first", "often", "tape"]) (aU (aH tY) ["tape", "hands", "kind", "first", "often", "some"] rfl rfl (by decide +kernel)) rfl (eE rfl B.range (aA (pv 1) aC))
     (fun _ _ _ _=>aI (i:=0) (show (["hand", "first", "often", "tape"]:List Str).Nodup by decide +kernel) rfl (Or.inl rfl))
     (fun _ _ _ _=>iW (PW.pt (eM (aL iC (pv 0) (pv 1) (aN _)) (dP (aL iC (aW GD OD hr rfl (aA (pv 3) (aA (pv 2) aC))) aG (aN _))))))
     (fun _ _ _ _=>pv 0)))
   (aD (bJ (PW.pt (jL (aL iC (pv 2) aG (aN _)) (iN (aL oX (aK aM rfl B.len cY (aA (pv 5) aC)) (pv 1) (aN _)))))
    (aF (aV (i:=5) rO.nd rfl (Or.inr rfl)
     (bO (own:=["hand"]) (fr:=[5]) (frn:=["some"]) (aU (aH tY) ["tape", "hands", "kind", "first", "often", "some"] rfl rfl (by decide +kernel)) rfl (gJ (pv 5))
      (fun _ _ _ _=>aI (i:=0) (show (["hand", "some"]:List Str).Nodup by decide +kernel) rfl (Or.inl rfl))
      (fun _ _ _ _=>iW (PW.pt (eM (aL wK (pv 0) aG (aN _)) (dP (aL (aAQ (K:=K) rfl hr.u64) (pv 1) (eV (aA aG aC)) (aN _))))))
      (fun _ _ _ _=>pv 0)))) aT)
   (aF (aQ (bH bM rfl B.tuple bT (aA (pv 5) aC)))))))))),?_⟩
  refine ⟨_,rfl,_,rfl,t,a,ns,n,rfl,hT,by omega,by omega,fun first H1 hf0 hf1 b1 T1=>?_⟩
  obtain ⟨fn,rfl⟩:∃ fn:Nat,first=fn:=⟨first.toNat,by omega⟩
  obtain ⟨m,rfl⟩:∃ m:Nat,n=m:=⟨n.toNat,by omega⟩
  refine ⟨_,rfl,rfl,_,rfl,?_⟩
  refine cF (fun c1=>?_) (fun c1=>?_)
  ·refine ⟨_,rfl,sz1 _,fun p hp=>?_⟩
   refine k [(fn:Int)] p _ (hV (by simp) (fun x hx=>?_) (by simp)) (b1.trans (But.of (aE.new hp))) (T1.same (aE.new hp)) (SqT.of aB)
   rw [An] at hx
   omega
  refine ⟨_,rfl,rfl,_,rfl,?_⟩
  refine cF (fun c2=>?_) (fun c2=>?_)
  ·have hmod0:0<=((fn:Int)+1) % (m:Int):=Cr _ (by omega)
   have hmod1:((fn:Int)+1) % (m:Int) < m:=Cl _ (by omega)
   have hg:∃ g:Nat,((fn:Int)+1) % (m:Int)=g:=⟨(((fn:Int)+1) % (m:Int)).toNat,by omega⟩
   obtain ⟨g,hg⟩:=hg
   refine ⟨_,rfl,_,rfl,_,_,rfl,rfl,_,rfl,_,_,rfl,rfl,(show (0:Int) < (m:Int) by omega),sz2 _ _,fun l hl=>?_⟩
   rw [hg] at hmod0 hmod1
   refine ⟨l,fn,g,rfl,SqL.of (by rw [aB]; show some (HO.lst [V.int (fn:Int),V.int (((fn:Int)+1) % (m:Int))])=_; rw [hg]),by omega,by omega,fun p hp=>⟨p,fn,g,rfl,aB,by omega,by omega,fun q hq=>⟨q,_,rfl,.inl ⟨SqL.of aB,fun r hr2=>?_⟩⟩⟩⟩
   have sm:=((aE.new (o:=.lst [.int (fn:Int),.int (((fn:Int)+1) % (m:Int))]) hl).trans ((aE.new hp).trans ((aE.new hq).trans (aE.new (o:=.tup ((mL fn g).map V.int)) hr2))))
   obtain ⟨w1,w2,w3⟩:=aBH (a:=fn) (b:=g)
   refine k (mL fn g) r _ (hV w2 (fun x hx=>?_) w1) (b1.trans (But.of sm)) (T1.same sm) (SqT.of aB)
   rcases w3 x hx with e | e <;> omega
  refine ⟨_,rfl,rfl,_,rfl,?_⟩
  refine cF (fun c3=>?_) (fun c3=>?_)
  ·refine ⟨_,rfl,(m:Int),rfl,fun p hp=>⟨p,m,rfl,aB,by omega,fun q H' s' hq=>?_⟩⟩
   have sm:=(aE.new hp).trans s'
   refine k (cG m) q H' (hV (fun z=>?_) (fun x hx=>aCX.mp hx) (zX m)) (b1.trans (But.of sm)) (T1.same sm) hq
   have:=kT m
   rw [z] at this
   simp at this
   omega
  refine ⟨_,rfl,t,a,ns,3,rfl,T1,by decide,by decide,fun r H2 hr0 hr1 b2 T2=>⟨_,_,rfl,rfl,?_⟩⟩
  have b02:=b1.trans b2
  refine ⟨_,rfl,(m:Int),rfl,by omega,by omega,fQ (lo:=0) (n:=((m:Int)).toNat) (fun σ=>∃ v,σ = [v,some (.int (fn:Int)),some (.int (2+r)),some (.ref t)])
   (fun i ys H3=>∃ l:List Int,ys=l.map V.int/\l.Pairwise (· < ·)/\(∀ x∈l,0<=x/\x < i)/\(fn < i->l≠[])/\But t H H3/\gS K H3 t a ns) (cZ (by omega)) ⟨none,rfl⟩
   ⟨[],rfl,.nil,fun _ h=>(Ap h).elim,fun h=>(Db _ h).elim,b02,T2⟩ ?_ ?_ ?_⟩
  ·rintro i ys H3 ⟨l,rfl,h1,h2,_⟩
   rw [Ac]
   have:=eQ (n:=(i:Int)) (by omega) h2 h1
   omega
  ·rintro i ys σ H3 hi ⟨v,rfl⟩ ⟨l,rfl,h1,h2,h3,b3,T3⟩ hz
   have hnext:(l++[(i:Int)]).Pairwise (· < ·)/\∀ x∈l++[(i:Int)],0<=x/\x < ((i+1:Nat):Int):=by
    refine ⟨Gg.mpr ⟨h1,by simp,fun x hx y hy=>?_⟩,fun x hx=>?_⟩
    ·rw [An] at hy
     have:=(h2 x hx).2
     omega
    ·rcases Bp.mp hx with hx | hx
     ·have:=h2 x hx
      omega
     ·rw [An] at hx
      omega
   refine ⟨_,rfl,_,rfl,rfl,_,rfl,?_⟩
   refine cF (fun c4=>?_) (fun c4=>?_)
   ·refine eR ?_
    refine ⟨_,rfl,hz,⟨_,rfl⟩,l++[(i:Int)],by simp,hnext.1,hnext.2,fun _=>by simp,b3,T3⟩
   ·have c4':¬ (fn:Int)=i:=fun z=>c4 (by simp [z])
    refine ⟨_,rfl,_,rfl,t,a,ns,2+r,rfl,T3,by omega,by omega,fun r4 H4 hr40 hr41 b4 T4=>⟨rfl,_,rfl,?_⟩⟩
    refine cF (fun c5=>?_) (fun c5=>?_)
    ·refine ⟨_,rfl,hz,⟨_,rfl⟩,l++[(i:Int)],by simp,hnext.1,hnext.2,fun _=>by simp,b3.trans b4,T4⟩
    ·refine ⟨⟨_,rfl⟩,l,rfl,h1,fun x hx=>?_,fun h=>h3 (by omega),b3.trans b4,T4⟩
     have:=h2 x hx
     omega
  ·rintro ys H3 ⟨l,rfl,h1,h2,h3,b3,T3⟩ p hp
   have hl0:l≠[]:=h3 (by omega)
   have h2':∀ x∈l,0<=x/\x < (m:Int):=fun x hx=>by have:=h2 x hx; omega
   have hshort:=eQ (by omega) h2' h1
   have sp:=aE.new (o:=.lst (l.map V.int)) hp
   have T3':=T3.same sp
   have b3':=b3.trans (But.of sp)
   have ntp:p≠t:=T3.ne hp
   have hpl:upd H3 p (.lst (l.map V.int)) p=some (.lst (l.map V.int)):=aB
   generalize hH5:upd H3 p (.lst (l.map V.int))=H5 at T3' b3' hpl ⊢
   refine ⟨_,rfl,rfl,_,rfl,?_⟩
   refine cF (fun c4=>?_) (fun c4=>?_)
   ·refine ⟨_,rfl,p,_,rfl,.inl (SqL.of hpl),_,rfl,_,_,rfl,rfl,_,rfl,?_⟩
    refine cF (fun c5=>?_) (fun c5=>?_)
    ·refine ⟨_,rfl,p,rfl,⟨_,SqL.of hpl⟩,oF (K:=K) (a:=p) (xs:=l.map V.int) (fun σ=>∃ v,σ = [v,some (.ref p)]) (fun i ys H6=>aE H5 H6/\ys=((l.take i).filter fun h=>decide (0 < h) || decide (l = [0])).map V.int) (cZ (by rw [Ac]; omega)) ⟨none,rfl⟩ ⟨aE.refl _,rfl⟩ ?_ ?_ ?_ ?_⟩
     ·rintro i ys H6 ⟨_,rfl⟩
      rw [Ac]
      exact At (Cw _ _) (by rw [Ax]; omega)
     ·rintro i ys H6 ⟨s6,_⟩
      exact s6.seqL (SqL.of hpl)
     ·rintro i ys σ x H6 hx ⟨v,rfl⟩ ⟨s6,rfl⟩ hz
      rw [Af] at hx
      obtain ⟨h,hh,rfl⟩:∃ h,l[i]?=some h/\V.int h=x:=by
       cases q:l[i]? with
       | none=>rw [q] at hx; cases hx
       | some h=>rw [q] at hx; exact ⟨h,rfl,Option.some.inj hx⟩
      have etake:l.take (i+1)=l.take i++[h]:=by rw [Bm,hh]; rfl
      refine ⟨_,rfl,_,_,rfl,rfl,_,rfl,?_⟩
      refine cF (fun c6=>?_) (fun c6=>?_)
      ·refine eR ?_
       refine ⟨_,rfl,hz,⟨_,rfl⟩,s6,?_⟩
       rw [etake,Bu,Ay]
       simp [of_decide_eq_true c6]
      ·refine ⟨_,rfl,sz1 _,fun q hq=>?_⟩
       have s7:=s6.trans (aE.new (o:=.lst [V.int 0]) hq)
       refine ⟨.list (l.map .int),.list ([0].map .int),gG.mpr ⟨p,rfl,s7.seqL (SqL.of hpl)⟩,gG.mpr ⟨q,rfl,SqL.of aB⟩,dX _,dX _,eP _,eP _,_,rfl,?_⟩
       rw [oP]
       refine cF (fun c7=>?_) (fun c7=>?_)
       ·refine ⟨_,rfl,hz,⟨_,rfl⟩,s7,?_⟩
        rw [etake,Bu,Ay]
        simp [of_decide_eq_true c7]
       ·refine ⟨⟨_,rfl⟩,s7,?_⟩
        rw [etake,Bu,Ay]
        have c6':¬ 0 < h:=fun z=>c6 (decide_eq_true z)
        have c7':¬ l = [0]:=fun z=>c7 (decide_eq_true z)
        simp [c6',c7']
     ·rintro ys H6 ⟨s6,rfl⟩ q hq
      rw [Ac,Bv]
      have hsub:(l.filter fun h=>decide (0 < h) || decide (l = [0])).Sublist l:=List.filter_sublist
      refine ⟨_,rfl,q,_,rfl,.inl ⟨SqL.of aB,fun r5 hr5=>?_⟩⟩
      have sm:=s6.trans ((aE.new (o:=.lst ((l.filter fun h=>decide (0 < h) || decide (l = [0])).map V.int)) hq).trans (aE.new (o:=.tup ((l.filter fun h=>decide (0 < h) || decide (l = [0])).map V.int)) hr5))
      refine k (l.filter fun h=>decide (0 < h) || decide (l = [0])) r5 _ (hV ?_ (fun x hx=>h2' x (hsub.mem hx)) (h1.sublist hsub)) (b3'.trans (But.of sm)) (T3'.same sm) (SqT.of aB)
      intro z
      rw [Ej] at z
      by_cases hl:l = [0]
      ·have:=z 0 (by rw [hl]; simp)
       simp [hl] at this
      ·apply hl
       have hall:∀ x∈l,x=0:=fun x hx=>by
        have hz:=z x hx
        have:=(h2' x hx).1
        simp [hl] at hz
        omega
       match l,hl0,h1,hall with
       | [x],_,_,ha=>rw [ha x (An.mpr rfl)]
       | x::y::r,_,hp,ha =>
        exfalso
        have h3:=(Bt.mp hp).1 y (Ao ..)
        rw [ha x (Ao ..),ha y (Av _ (Ao ..))] at h3
        omega
    ·refine ⟨_,rfl,p,_,rfl,.inl ⟨SqL.of hpl,fun q hq=>?_⟩⟩
     exact k l q _ (hV hl0 h2' h1) (b3'.trans (But.of (aE.new hq))) (T3'.same (aE.new hq)) (SqT.of aB)
   ·refine cE ?_
    refine ⟨_,rfl,p,_,rfl,.inl ⟨SqL.of hpl,fun q hq=>?_⟩⟩
    exact k l q _ (hV hl0 h2' h1) (b3'.trans (But.of (aE.new hq))) (T3'.same (aE.new hq)) (SqT.of aB)
def Far (K:PySem.W.Frag) (a f:Addr) (ns:List Int):Prop:=a≠f∨∀ H,SqL K H a (ns.map V.int)
theorem aE5 {K:PySem.W.Frag} {H:Hp} {a f:Addr} {ns:List Int} (h:SqL K H a (ns.map V.int)) (hf:H f=none):Far K a f ns:=by
 rcases h with (h | ⟨o,h⟩) | h
 ·exact .inl fun z=>by rw [z,hf] at h; cases h
 ·exact .inl fun z=>by rw [z,hf] at h; cases h
 ·exact .inr fun _=>.inr h
theorem gS.wr {K:PySem.W.Frag} {H H':Hp} {t a f:Addr} {ns:List Int} (T:gS K H t a ns) (b:But f H H') (n:t≠f) (F:Far K a f ns):gS K H' t a ns:=by
 obtain ⟨⟨p,q,h1,h2⟩,h3⟩:=T
 refine ⟨⟨p,q,h1,b t _ n h2⟩,?_⟩
 rcases F with F | F
 ·exact b.seqL F h3
 ·exact F H'
theorem rP {h:Int} {l:List Int}:gC (.int h) l=true↔h∈l:=by
 show (l.any (·==h))=true↔_
 rw [Cj]
 constructor
 ·rintro ⟨x,hx,e⟩
  have:x=h:=by simpa using e
  exact this ▸ hx
 ·exact fun hx=>⟨h,hx,by simp⟩
theorem pZ {ws:List (List Int)} {hs:List Int} (h1:hs.length=ws.length) (h2:∀ (j:Nat) (h:Int) (l:List Int),hs[j]?=some h->ws[j]?=some l->h∈l):gR ws (gQ hs)=true:=by
 show (decide ((hs.map PyData.int).length=ws.length) && ((hs.map PyData.int).zip ws).all fun p=>gC p.1 p.2)=true
 rw [Ac,decide_eq_true h1,Ck,Bf]
 rintro ⟨d,l⟩ hm
 obtain ⟨j,hj⟩:=Bb.mp hm
 rw [By] at hj
 obtain ⟨hj1,hj2⟩:=hj
 have hj1:(hs.map PyData.int)[j]?=some d:=hj1
 have hj2:ws[j]?=some l:=hj2
 rw [Af] at hj1
 cases q:hs[j]? with
 | none=>rw [q] at hj1; cases hj1
 | some h =>
  rw [q] at hj1
  obtain rfl:PyData.int h=d:=Option.some.inj hj1
  exact rP.mpr (h2 j h l q hj2)
theorem cX {ws:List (List Int)} {hs:List Int} (h:gR ws (gQ hs)=true):hs.length=ws.length/\∀ (j:Nat) (h:Int) (l:List Int),hs[j]?=some h->ws[j]?=some l->h∈l:=by
 have h':(decide ((hs.map PyData.int).length=ws.length) && ((hs.map PyData.int).zip ws).all fun p=>gC p.1 p.2)=true:=h
 rw [Ac,Az,Bf] at h'
 refine ⟨of_decide_eq_true h'.1,fun j h l hj hl=>?_⟩
 refine rP.mp (h'.2 (.int h,l) (Ah (i:=j) ?_))
 rw [By]
 exact ⟨by rw [Af,hj]; rfl,hl⟩
theorem wA {n:Int} {ws:List (List Int)} (h1:1<=n) (h2:n<=6) (h3:ws.length<=12) (h4:∀ l∈ws,cB n (bF l)=true):bU (bD n ws)=true:=by
 show (decide (1<=n) && decide (n<=6) && decide ((ws.map bF).length<=12) && (ws.map bF).all (cB n))=true
 rw [decide_eq_true h1,decide_eq_true h2,Ac,decide_eq_true h3,Ck,Ck,Ck,Bf]
 intro d hd
 obtain ⟨l,hl,rfl⟩:=Bd.mp hd
 exact h4 l hl
theorem lL {H:Hp} {n:Int} {ws:List (List Int)} {a b:Addr} {ys:List V} (h1:SqT K H a [.int n,.ref b]) (h2:SqT K H b ys) (h3:aZ K H (ws.map bF) ys):Den K H (bD n ws) (.ref a) :=
 bV.mpr ⟨a,_,rfl,h1,aS.mpr ⟨_,_,rfl,cS.mpr rfl,aS.mpr ⟨_,_,rfl,bV.mpr ⟨b,ys,rfl,h2,h3⟩,aY.mpr rfl⟩⟩⟩
def aCY (K:PySem.W.Frag):Sp:=fun vs H Q _=>∃ (t a:Addr) (ns:List Int),vs = [.ref t,.int 6,.int 12]/\gS K H t a ns/\∀ n ws p H',bU (bD n ws)=true->But t H H'->gS K H' t a ns->Den K H' (bD n ws) (.ref p)->Q (.ref p) H'
theorem mS:FnScope ["tape", "hands", "works", "many", "kind", "found", "k", "sort"] ["tape", "hands", "works"] (aH aAL):=⟨rfl,rfl,rfl,by decide +kernel,rfl,by decide +kernel,by decide +kernel⟩
theorem aD6 {f fD fK:Addr} {fd fdD fdK:FuncData} (G:Fn K mg "_law_b_book" aAL ["tape", "hands", "works"] f fd) (B:Bl mg) (GD:Fn K mg "_law_b_digit" mQ ["tape", "many"] fD fdD) (OD:FnOk P w K mg base CX0 2 fD fdD ["tape", "many"] (lJ K))
  (GK:Fn K mg "_law_b_work" tY ["tape", "hands", "kind"] fK fdK) (OK:FnOk P w K mg base CX0 3 fK fdK ["tape", "hands", "kind"] (zY K)):FnOk P w K mg base CX0 4 f fd ["tape", "hands", "works"] (aCY K):=by
 refine G.fn.ok mS (fun vs H Q E h=>?_) (fun cdv A outer s H vs Q E hr h=>?_)
 ·obtain ⟨t,a,ns,rfl,_⟩:=h
  rfl
 ·obtain ⟨t,a,ns,rfl,hT,k⟩:=h
  have hr2:Room 2 _:=hr.mono (by decide)
  refine ⟨_,aD (aV (i:=3) mS.nd rfl (Or.inl rfl) (bC eI aG (aW GD OD hr2 rfl (aA (pv 0) (aA (pv 1) aC)))))
   (aD (aV (i:=4) mS.nd rfl (Or.inl rfl) (aW GD OD hr2 rfl (aA (pv 0) (aA aG aC))))
   (aD (aV (i:=5) mS.nd rfl (Or.inl rfl) (eV aC))
   (aD (eU PassesOwn.never rfl (eE rfl B.range (aA (aW GD OD hr2 rfl (aA (pv 0) (aA (bC eI (pv 2) aG) aC))) aC)) (aI (i:=6) mS.nd rfl (Or.inl rfl))
    (aD (aV (i:=7) mS.nd rfl (Or.inl rfl) (pv 4))
    (aD (bJ (aL wK (pv 4) aG (aN _)) (aF (aV (i:=7) mS.nd rfl (Or.inl rfl) (aW GD OD hr2 rfl (aA (pv 0) (aA aG aC))))) aT)
    (aF (dZ (oZ PySem.F.plainAttrs_list PySem.F.slot_list_append PySem.F.type_list_append hX (pv 5) (aA (aW GK OK hr rfl (aA (pv 0) (aA (pv 3) (aA (pv 7) aC)))) aC)))))))
   (aF (aQ (bX (aA (pv 3) (aA (bH bM rfl B.tuple bT (aA (pv 5) aC)) aC)))))))),?_⟩
  refine ⟨_,rfl,_,rfl,t,a,ns,6,rfl,hT,by decide,by decide,fun r H1 hr0 hr1 b1 T1=>⟨_,_,rfl,rfl,?_⟩⟩
  refine ⟨_,rfl,t,a,ns,8,rfl,T1,by decide,by decide,fun kd H2 hk0 hk1 b2 T2=>?_⟩
  refine ⟨cZ (Bo _),fun fl hfl=>?_⟩
  have ntf:t≠fl:=fun z=>T2.ne hfl z.symm
  have F:Far K a fl ns:=aE5 T2.2 hfl
  have s3:=aE.new (o:=.lst []) hfl
  have hfl0:H fl=none:=(b1.trans b2).free hfl (Ne.symm ntf)
  have T3:=T2.same s3
  have b03:=b1.trans (b2.trans (But.of s3))
  have hfl3:upd H2 fl (.lst []) fl=some (.lst []):=aB
  generalize hH3:upd H2 fl (.lst [])=H3 at T3 b03 hfl3 ⊢
  refine ⟨_,rfl,_,rfl,_,_,rfl,rfl,t,a,ns,13,rfl,T3,by decide,by decide,fun m H4 hm0 hm1 b4 T4=>?_⟩
  refine ⟨m,rfl,by omega,by omega,oB (lo:=0) (n:=m.toNat) (fun i σ H5=>∃ (ws:List (List Int)) (xs:List V) (v v2:Option V),σ = [some (.ref t),some (.int 6),some (.int 12),some (.int (1+r)),some (.int kd),some (.ref fl),v,v2]/\ws.length=i /\
   (∀ l∈ws,cB (1+r) (bF l)=true)/\H5 fl=some (.lst xs)/\aZ K H5 (ws.map bF) xs/\But t H H5/\gS K H5 t a ns)
   ⟨[],[],none,none,rfl,rfl,fun _ h=>(Ap h).elim,b4 fl _ (Ne.symm ntf) hfl3,aY.mpr rfl,b03.trans b4,T4⟩ ?_ ?_⟩
  ·rintro i σ H5 hi ⟨ws,xs,v,v2,rfl,hl,hw,hx,hd,b5,T5⟩
   have hxl:xs.length=i:=by rw [aP hd,Ac,hl]
   refine ⟨_,rfl,?_⟩
   refine ⟨_,rfl,_,_,rfl,rfl,_,rfl,?_⟩
   refine cF (fun c1=>?_) (fun c1=>?_)
   ·refine ⟨_,rfl,t,a,ns,5,rfl,T5,by decide,by decide,fun r2 H6 hr20 hr21 b6 T6=>?_⟩
    obtain ⟨⟨p5,q5,h5,ht5⟩,hs5⟩:=id T5
    have hx6:H6 fl=some (.lst xs):=b6 fl _ (Ne.symm ntf) hx
    have hd6:=b6.denAll ht5 _ _ (cP _ cV ws) hd
    refine ⟨_,rfl,.inl ⟨rfl,_,SqL.of hx6⟩,_,rfl,_,rfl,_,rfl,t,a,ns,1+r,r2,rfl,T6,by omega,by omega,fun l p H7 hwk b7 T7 hp7=>?_⟩
    obtain ⟨⟨p6,q6,h6,ht6⟩,hs6⟩:=id T6
    have hx7:H7 fl=some (.lst xs):=b7 fl _ (Ne.symm ntf) hx6
    have hd7:=b7.denAll ht6 _ _ (cP _ cV ws) hd6
    refine ⟨fl,xs,.ref p,rfl,rfl,hx7,by rw [sizeLine_eq]; omega,?_⟩
    have b8:But fl H7 (upd H7 fl (.lst (xs++[.ref p]))):=But.at
    refine ⟨ws++[l],xs++[.ref p],_,_,rfl,by rw [Aq,hl]; rfl,fun l2 hl2=>?_,aB,?_,(fun b o nb hb=>by rw [aJ (fun z=>by rw [z,hfl0] at hb; cases hb)]; exact ((b5.trans b6).trans b7) b o nb hb),T7.wr b8 ntf F⟩
    ·rcases Bp.mp hl2 with h | h
     ·exact hw l2 h
     ·rw [An.mp h]; exact hwk
    ·rw [Ay]
     refine eX (b8.denAll hx7 _ _ (cP _ cV ws) hd7) (aS.mpr ⟨_,_,rfl,?_,aY.mpr rfl⟩)
     exact aX.mpr ⟨p,rfl,b8.seqT hx7 hp7⟩
   ·show _
    obtain ⟨⟨p5,q5,h5,ht5⟩,hs5⟩:=id T5
    have hx6:H5 fl=some (.lst xs):=(But.refl t H5) fl _ (Ne.symm ntf) hx
    have hd6:=(But.refl t H5).denAll ht5 _ _ (cP _ cV ws) hd
    refine ⟨_,rfl,.inl ⟨rfl,_,SqL.of hx6⟩,_,rfl,_,rfl,_,rfl,t,a,ns,1+r,kd,rfl,T5,by omega,by omega,fun l p H7 hwk b7 T7 hp7=>?_⟩
    obtain ⟨⟨p6,q6,h6,ht6⟩,hs6⟩:=id T5
    have hx7:H7 fl=some (.lst xs):=b7 fl _ (Ne.symm ntf) hx6
    have hd7:=b7.denAll ht6 _ _ (cP _ cV ws) hd6
    refine ⟨fl,xs,.ref p,rfl,rfl,hx7,by rw [sizeLine_eq]; omega,?_⟩
    have b8:But fl H7 (upd H7 fl (.lst (xs++[.ref p]))):=But.at
    refine ⟨ws++[l],xs++[.ref p],_,_,rfl,by rw [Aq,hl]; rfl,fun l2 hl2=>?_,aB,?_,(fun b o nb hb=>by rw [aJ (fun z=>by rw [z,hfl0] at hb; cases hb)]; exact ((b5.trans (But.refl t H5)).trans b7) b o nb hb),T7.wr b8 ntf F⟩
    ·rcases Bp.mp hl2 with h | h
     ·exact hw l2 h
     ·rw [An.mp h]; exact hwk
    ·rw [Ay]
     refine eX (b8.denAll hx7 _ _ (cP _ cV ws) hd7) (aS.mpr ⟨_,_,rfl,?_,aY.mpr rfl⟩)
     exact aX.mpr ⟨p,rfl,b8.seqT hx7 hp7⟩
  ·rintro σ H5 ⟨ws,xs,v,v2,rfl,hl,hw,hx,hd,b5,T5⟩
   refine ⟨_,rfl,_,rfl,fl,_,rfl,.inl ⟨SqL.of hx,fun q hq=>⟨sz2 _ _,fun p hp=>?_⟩⟩⟩
   have sm:=(aE.new (o:=.tup xs) hq).trans (aE.new (o:=.tup [.int (1+r),.ref q]) hp)
   refine k (1+r) ws p _ (wA (by omega) (by omega) (by omega) hw) (b5.trans (But.of sm)) (T5.same sm) ?_
   refine lL (SqT.of aB) ((aE.new hp).seqT (SqT.of aB)) (sm.denAll _ _ hd)
theorem fY.hand {H:Hp} {x y:V} {n:Int} {ws:List (List Int)} {hs:List Int} (g:fY K H x y n ws hs) {i:Nat} {h:Int} (e:hs[i]?=some h):0<=h/\h < n:=by
 obtain ⟨_,_,_,hw⟩:=bG g.2.1
 obtain ⟨hl,hd⟩:=cX g.2.2.2
 have hi:i < ws.length:=by rw [<- hl]; exact (Ad.mp e).1
 have hm:=hd i h ws[i] e (Ae hi)
 exact (bL (hw _ (Ct hi))).2.1 h hm
theorem rQ {n:Int} {hs:List Int} {j:Nat} (h:j < n.toNat):(cC n hs)[j]?=some ((hs.count (j:Int):Nat):Int):=by
 unfold cC
 rw [Af,xT h]
 rfl
def gD (ws:List (List Int)) (hs:List Int):List Int->Bool
 | [k,g,t]=>decide (0<=k) && (decide (k < hs.length) && (hs[k.toNat]?==some g && (!decide (t=g) && decide (t∈ws.getD k.toNat []))))
 | _=>false
def jS (st:List Int):Int:=st.getD 1 0
def rR (st:List Int):Int:=st.getD 2 0
def bP:List (List Int)->List Int
 | []=>[]
 | s::r=>jS s::(s::r).map rR
def qA (L:List (List Int)):Bool:=(L.zip (bP L)).all fun p=>jS p.1==p.2
def rS (ws:List (List Int)) (hs:List Int) (L:List (List Int)):Bool:=!L.isEmpty && (L.all (gD ws hs) && (qA L && decide ((bP L).Nodup)))
theorem uB {ws:List (List Int)} {hs:List Int} {st:List Int} (h:gD ws hs st=true):∃ k g t,st = [k,g,t]:=by
 match st,h with
 | [k,g,t],_=>exact ⟨k,g,t,rfl⟩
theorem aBI {ws:List (List Int)} {hs:List Int} {st:List Int} (h:st.length≠3):gD ws hs st=false:=by
 match st,h with
 | [],_=>rfl
 | [_],_=>rfl
 | [_,_],_=>rfl
 | [_,_,_],h=>exact absurd rfl h
 | _::_::_::_::_,_=>rfl
theorem aGq {st:List Int} (h:st.length=3):∃ k g t,st = [k,g,t]:=by
 match st,h with
 | [k,g,t],_=>exact ⟨k,g,t,rfl⟩
theorem jT {H:Hp} {ws:List (List Int)} {ys:List V} (h:aZ K H (ws.map bF) ys) {i:Nat} {l:List Int} (e:ws[i]?=some l):∃ c,ys[i]?=some (.ref c)/\SqT K H c (l.map V.int):=by
 have hl:=aP h
 rw [Ac] at hl
 have hi:i < ys.length:=by rw [hl]; exact (Ad.mp e).1
 obtain ⟨d,e1,e2⟩:=cQ h (Ae hi)
 rw [Af,e] at e1
 obtain rfl:=(Option.some.inj e1).symm
 obtain ⟨c,e3,e4⟩:=aX.mp e2
 exact ⟨c,by rw [Ae hi,e3],e4⟩
theorem aCZ {l:List Int} {k:Int} {x:Int} (h0:0<=k) (h:l[k.toNat]?=some x):atI (l.map V.int) k=some (.int x):=by
 have h1:(l.map V.int)[k.toNat]?=some (.int x):=by rw [Af,h]; rfl
 have h2:=dJ h1
 rwa [Eb h0] at h2
theorem aE6 {l:List V} {k:Int} {x:V} (h0:0<=k) (h:l[k.toNat]?=some x):atI l k=some x:=by
 have h2:=dJ h
 rwa [Eb h0] at h2
variable {fW fH fK fB fNB fD fND fL:Addr} {dW dH dK dB dNB dD dND dL:FuncData}
def aC0 (K:PySem.W.Frag):Sp:=fun vs H Q _=>∃ x y b n ws hs l,vs = [x,y,.ref b]/\fY K H x y n ws hs/\SqT K H b (l.map V.int)/\l.length<=1000/\∀ H',aE H H'->Q (.bl (gD ws hs l)) H'
theorem wB:FnScope ["book", "deal", "step", "work", "giver", "taker"] ["book", "deal", "step"] (aH tX):=⟨rfl,rfl,rfl,by decide +kernel,rfl,by decide +kernel,by decide +kernel⟩
theorem aC1 {ws:List (List Int)} {hs:List Int} {k g t:Int} {h:Int} {l:List Int} (k0:0<=k) (k1:k < hs.length) (eh:hs[k.toNat]?=some h) (el:ws[k.toNat]?=some l):gD ws hs [k,g,t]=(decide (V.int h=V.int g) && (!decide (V.int t=V.int g) && l.any (·==t))):=by
 show (decide (0<=k) && (decide (k < hs.length) && (hs[k.toNat]?==some g && (!decide (t=g) && decide (t∈ws.getD k.toNat [])))))=_
 rw [decide_eq_true k0,decide_eq_true k1,eh]
 have e1:ws.getD k.toNat []=l:=by rw [Bc,el]; rfl
 rw [e1]
 have e2:(some h==some g)=decide (V.int h=V.int g):=by
  by_cases z:h=g
  ·subst z; simp
  ·rw [decide_eq_false (fun q=>z (V.int.inj q))]; simpa using z
 have e3:decide (t=g)=decide (V.int t=V.int g):=by
  by_cases z:t=g
  ·subst z; simp
  ·rw [decide_eq_false z,decide_eq_false (fun q=>z (V.int.inj q))]
 have e4:decide (t∈l)=l.any (·==t):=by
  rw [Cm,decide_eq_true_iff,Cj]
  constructor
  ·intro h; exact ⟨t,h,by simp⟩
  ·rintro ⟨y,hy,e⟩; have:y=t:=by simpa using e
   rw [<- this]; exact hy
 rw [e2,e3,e4]
 rfl
theorem aD7 {f:Addr} {fd:FuncData} (G:Fn K mg "is_step" tX ["book", "deal", "step"] f fd) (B:Bl mg) (R:Pr K mg fW fH fK fB fNB fD fND fL dW dH dK dB dNB dD dND dL):FnOk P w K mg base CX0 2 f fd ["book", "deal", "step"] (aC0 K):=by
 have OW:FnOk P w K mg base CX0 1 fW dW ["thing"] (iS K):=iI R.W B
 refine G.fn.ok wB (fun vs H Q E h=>?_) (fun cdv A outer s H vs Q E hr h=>?_)
 ·obtain ⟨x,y,b,n,ws,hs,l,rfl,_⟩:=h
  rfl
 ·obtain ⟨x,y,b,n,ws,hs,l,rfl,g,hb,hl,k⟩:=h
  have r1:Room 1 _:=hr
  refine ⟨_,(aD (bJ (PW.pt (eM (bZ (bW (aK bQ rfl B.isinstance iG (aA (pv 2) (aA (dY (v:=.ty "tuple") rfl B.tuple bT rfl) aC))))) (dP (aL iZ (aK aM rfl B.len cY (aA (pv 2) aC)) aG (aN _)))))
   (aF (aQ dM))
   aT)
  (aD (bJ (bZ (bW (aK (eW rfl) rfl B.all lZ (aA (bO (own:=["part"]) (fr:=[]) (frn:=[]) (aU (aH tX) ["book", "deal", "step", "work", "giver", "taker"] rfl rfl (by decide +kernel)) rfl (eA (pv 2))
    (fun _ _ _ _=>(aI (i:=0) (show (["part"]:List Str).Nodup by decide +kernel) rfl (Or.inl rfl))) (fun _ _ _ _=>cT)
    (fun _ _ _ _=>(aW R.W OW r1 rfl (aA (pv 0) aC)))) aC))))
   (aF (aQ dM))
   aT)
  (aD (fZ (pv 2) (eG rfl (aO (aI (i:=3) wB.nd rfl (Or.inl rfl)) (aO (aI (i:=4) wB.nd rfl (Or.inl rfl)) (aO (aI (i:=5) wB.nd rfl (Or.inl rfl)) cH)))))
  (aD (bJ (bZ (aB2 qH oX aG (pv 3) (aK aM rfl B.len cY (aA (pv 1) aC))))
   (aF (aQ dM))
   aT)
  (aF (aQ (kC (fJ iC (bA bK (pv 1) (pv 3) (fun _ _=>rfl)) (pv 4) (aN _)) (kC (fJ iZ (pv 5) (pv 4) (aN _)) (kB (fJ lE (pv 5) (bA bK (bA bK (pv 0) aG (fun _ _=>rfl)) (pv 3) (fun _ _=>rfl)) (by with_unfolding_all rfl))))))))))),?_⟩
  refine ⟨_,rfl,.ref b,.tup,rfl,.inr (.inl ⟨rfl,_,hb⟩),true,rfl,?_⟩
  refine cE ?_
  refine ⟨_,rfl,b,_,rfl,.inr hb,rfl,_,rfl,?_⟩
  refine cF (fun c=>?_) (fun c=>?_)
  ·have hne:l.length≠3:=fun z=>by rw [Ac,z] at c; simp at c
   rw [aBI hne] at k
   exact k H (aE.refl H)
  have h3:l.length=3:=by
   have:V.int ((l.map V.int).length:Nat)=V.int 3:=by simpa using c
   have:=V.int.inj this
   rw [Ac] at this
   omega
  obtain ⟨wk,gv,tk,rfl⟩:=aGq h3
  refine ⟨_,rfl,b,rfl,⟨_,hb⟩,gA (K:=K) (a:=b) (xs:=[V.int wk,V.int gv,V.int tk]) (fun σ=>σ.length=1) (fun i ys H'=>ys=(List.replicate i true).map V.bl/\aE H H') (cZ (show 3<=1000 by decide)) rfl ⟨rfl,aE.refl H⟩ (fun i ys H' p=>by rw [p.1]; simp) (fun i ys H' p=>p.2.seqT hb) (fun i ys σ x H' hx hσ p hz=>?_) (fun ys H' p=>?_)⟩
  ·obtain ⟨v,rfl⟩:∃ v,σ = [v]:=by match σ,hσ with | [v],_=>exact ⟨v,rfl⟩
   obtain ⟨q1,q2⟩:=p
   obtain ⟨m,rfl⟩:∃ m,x=.int m:=by
    have hm:=Ah hx
    simp only [Am,Ap,or_false] at hm
    rcases hm with rfl | rfl | rfl
    ·exact ⟨_,rfl⟩
    ·exact ⟨_,rfl⟩
    ·exact ⟨_,rfl⟩
   refine cW ?_
   refine ⟨_,rfl,.int m,.int m,rfl,cS.mpr rfl,hz,rfl,?_,q2⟩
   rw [q1,Gh,Ay]
   rfl
  ·obtain ⟨rfl,s1⟩:=p
   intro p hp
   have s2:=aE.new (o:=.lst ((List.replicate [V.int wk,V.int gv,V.int tk].length true).map V.bl)) hp
   refine ⟨p,List.replicate 3 true,rfl,SqL.of aB,_,rfl,?_⟩
   refine cE ?_
   have s3:=s1.trans s2
   generalize upd H' p (.lst ((List.replicate [V.int wk,V.int gv,V.int tk].length true).map V.bl))=H2 at s2 s3 ⊢
   refine ⟨_,rfl,b,_,rfl,s3.seqT hb,rfl,_,_,rfl,_,_,rfl,_,_,rfl,rfl,?_⟩
   have g3:=g.same s3
   obtain ⟨hdl,hdg⟩:=cX g.2.2.2
   obtain ⟨ba,bb,ys2,rfl,ha,hb2,hys⟩:=cR g3.1
   obtain ⟨c,rfl,hc⟩:=aX.mp g3.2.2.1
   refine ⟨_,rfl,_,_,rfl,rfl,_,rfl,?_⟩
   by_cases k0:0<=wk
   ·rw [decide_eq_true k0]
    refine eR ?_
    refine ⟨_,rfl,c,_,rfl,.inr hc,_,_,rfl,rfl,_,rfl,?_⟩
    rw [Ac]
    by_cases k1:wk < hs.length
    ·rw [decide_eq_true k1]
     refine cE ?_
     have hlt:wk.toNat < hs.length:=by omega
     have eh:=Ae hlt
     have el:=Ae (l:=ws) (i:=wk.toNat) (by omega)
     obtain ⟨cw,e1,e2⟩:=jT hys el
     have sv:=aC1 (g:=gv) (t:=tk) k0 k1 eh el
     have kk:=k H2 s3
     rw [sv] at kk
     refine ⟨_,rfl,_,rfl,c,_,_,_,rfl,rfl,hc,aCZ k0 eh,_,rfl,rfl,_,rfl,?_⟩
     refine cF (fun c1=>?_) (fun c1=>?_)
     ·rw [c1] at kk
      refine ⟨_,rfl,_,rfl,rfl,_,rfl,?_⟩
      refine cF (fun c2=>?_) (fun c2=>?_)
      ·rw [c2] at kk
       refine ⟨_,rfl,_,rfl,ba,_,1,.ref bb,rfl,rfl,ha,rfl,_,rfl,bb,_,_,_,rfl,rfl,hb2,aE6 k0 e1,cw,_,rfl,.inr e2,rfl,iB _,?_⟩
       rw [show inV (V.int tk) (ws[wk.toNat].map V.int)=_ from jP tk _]
       exact kk
      ·rw [Dy] at c2
       rw [c2] at kk
       exact kk
     ·rw [Dy] at c1
      rw [c1] at kk
      exact kk
    ·rw [decide_eq_false k1]
     refine eR ?_
     have e:gD ws hs [wk,gv,tk]=false:=by
      show (decide (0<=wk) && (decide (wk < hs.length) && _))=false
      rw [decide_eq_false k1]; simp
     rw [e] at k
     exact k H2 s3
   ·rw [decide_eq_false k0]
    refine cE ?_
    refine ⟨_,rfl,?_⟩
    refine eR ?_
    have e:gD ws hs [wk,gv,tk]=false:=by
     show (decide (0<=wk) && _)=false
     rw [decide_eq_false k0]; rfl
    rw [e] at k
    exact k H2 s3
end
theorem zZ {L:List (List Int)} (h:L≠[]):(bP L).length=L.length+1:=by
 cases L with
 | nil=>exact absurd rfl h
 | cons s r=>simp [bP]
section
variable {P:Program} {w:World} {K:PySem.W.Frag} {mg:Str->Option Value} {base:Heap}
variable {fW fH fK fB fNB fD fND fL:Addr} {dW dH dK dB dNB dD dND dL:FuncData}
def aEv (K:PySem.W.Frag):Sp:=fun vs H Q _=>∃ x y p xs n ws hs L,vs = [x,y,.ref p]/\fY K H x y n ws hs/\SqL K H p xs/\aZ K H (L.map bF) xs/\L.length<=30/\(∀ l∈L,l.length<=1000)/\∀ H',aE H H'->Q (.bl (rS ws hs L)) H'
theorem aC2:FnScope ["book", "deal", "some", "passed", "follow"] ["book", "deal", "some"] (aH zS):=⟨rfl,rfl,rfl,by decide +kernel,rfl,by decide +kernel,by decide +kernel⟩
theorem aE7 {f fS:Addr} {fd dS:FuncData} (G:Fn K mg "is_way" zS ["book", "deal", "some"] f fd) (B:Bl mg) (R:Pr K mg fW fH fK fB fNB fD fND fL dW dH dK dB dNB dD dND dL) (GS:Fn K mg "is_step" tX ["book", "deal", "step"] fS dS):FnOk P w K mg base CX0 7 f fd ["book", "deal", "some"] (aEv K):=by
 have OS:FnOk P w K mg base CX0 2 fS dS ["book", "deal", "step"] (aC0 K):=aD7 GS B R
 have OND:FnOk P w K mg base CX0 6 fND dND ["book", "deal"] (vV K):=xU B R
 refine G.fn.ok aC2 (fun vs H Q E h=>?_) (fun cdv A outer s H vs Q E hr h=>?_)
 ·obtain ⟨x,y,p,xs,n,ws,hs,L,rfl,_⟩:=h
  rfl
 ·obtain ⟨x,y,p,xs,n,ws,hs,L,rfl,g,hp,hd,hL,hl1000,k⟩:=h
  have r2:Room 2 _:=hr.mono (by decide)
  have r6:Room 6 _:=hr
  refine ⟨_,(aD (dZ (aW R.ND OND r6 rfl (aA (pv 0) (aA (pv 1) aC))))
  (aD (bJ (PW.pt (eM (bZ (bW (aK sN rfl B.isinstance iG (aA (pv 2) (aA (dY (v:=.ty "list") rfl B.list vO rfl) aC))))) (dP (aL iC (aK aM rfl B.len cY (aA (pv 2) aC)) aG (aN _)))))
   (aF (aQ dM))
   aT)
  (aD (bJ (bZ (bW (aK (eW rfl) rfl B.all lZ (aA (bO (own:=["step"]) (fr:=[0,1]) (frn:=["book", "deal"]) (aU (aH zS) ["book", "deal", "some", "passed", "follow"] rfl rfl (by decide +kernel)) rfl (gJ (pv 2))
    (fun _ _ _ _=>(aI (i:=0) (show (["step", "book", "deal"]:List Str).Nodup by decide +kernel) rfl (Or.inl rfl))) (fun _ _ _ _=>cT)
    (fun _ _ _ _=>(aW GS OS r2 rfl (aA (pv 1) (aA (pv 2) (aA (pv 0) aC)))))) aC))))
   (aF (aQ dM))
   aT)
  (aD (aV (i:=3) aC2.nd rfl (Or.inl rfl) (bC aEU (eV (aA (bA bK (bA cI (pv 2) aG (fun _ _=>rfl)) aG (fun _ _=>rfl)) aC)) (bO (own:=["step"]) (fr:=[]) (frn:=[]) (aU (aH zS) ["book", "deal", "some", "passed", "follow"] rfl rfl (by decide +kernel)) rfl (gJ (pv 2))
    (fun _ _ _ _=>(aI (i:=0) (show (["step"]:List Str).Nodup by decide +kernel) rfl (Or.inl rfl))) (fun _ _ _ _=>cT)
    (fun _ _ _ _=>(bA (jQ (K:=K) rfl) (pv 0) aG (fun _ _=>rfl))))))
  (aD (aV (i:=4) aC2.nd rfl (Or.inl rfl) (aK (eW rfl) rfl B.all lZ (aA (bO (own:=["step", "hand"]) (fr:=[]) (frn:=[]) (aU (aH zS) ["book", "deal", "some", "passed", "follow"] rfl rfl (by decide +kernel)) rfl (uX .l .l rfl B.zip (aA (pv 2) (aA (pv 3) aC)))
    (fun _ _ _ _=>(vU (K:=K) (n:=2) rfl rfl (aO (aI (i:=0) (show (["step", "hand"]:List Str).Nodup by decide +kernel) rfl (Or.inl rfl)) (aO (aI (i:=1) (show (["step", "hand"]:List Str).Nodup by decide +kernel) rfl (Or.inl rfl)) cH)))) (fun _ _ _ _=>cT)
    (fun _ _ _ _=>(fJ iC (bA (jQ (K:=K) rfl) (pv 0) aG (fun _ _=>rfl)) (pv 1) (aN _)))) aC)))
  (aF (aQ (kC (pv 4) (kB (fJ iC (aK sU rfl B.len cY (aA (bH (aBl (K:=K) rfl rfl) rfl B.set aCO (aA (pv 3) aC)) aC)) (aK aM rfl B.len cY (aA (pv 3) aC)) (aN _))))))))))),?_⟩
  refine ⟨_,rfl,_,rfl,x,y,n,ws,hs,rfl,g,fun H1 s1=>?_⟩
  have hxl:=aP hd
  rw [Ac] at hxl
  have hp1:=s1.seqL hp
  have hd1:=s1.denAll _ _ hd
  refine ⟨_,rfl,.ref p,.lst,rfl,.inl ⟨rfl,_,hp1⟩,true,rfl,?_⟩
  refine cE ?_
  refine ⟨_,rfl,p,_,rfl,.inl hp1,rfl,_,rfl,?_⟩
  refine cF (fun c=>?_) (fun c=>?_)
  ·have e0:L = []:=by
    have:V.int (xs.length:Nat)=V.int 0:=by simpa using c
    have:=V.int.inj this
    exact Cq.mp (by omega)
   subst e0
   exact k H1 s1
  have hne:L≠[]:=fun z=>by
   subst z
   have:xs.length=0:=by simpa using hxl
   rw [this] at c
   simp at c
  have g1:=g.same s1
  refine ⟨_,rfl,p,rfl,⟨_,hp1⟩,xA (K:=K) (a:=p) (xs:=xs) (vs:=(L.map (gD ws hs)).map V.bl) (fun σ=>∃ v,σ = [v,some x,some y]) (by omega) (by simp [hxl]) hp1 ⟨none,rfl⟩ ?_ ?_⟩
  ·rintro i u v σ H2 hu hv ⟨v0,rfl⟩ s2 Q' k'
   have hlt:i < L.length:=by have:=(Ad.mp hu).1; omega
   have el:L[i]?=some L[i]:=Ae hlt
   obtain ⟨c1,e1,e2⟩:=jT (s2.denAll _ _ hd1) el
   rw [hu] at e1
   obtain rfl:=Option.some.inj e1
   have ev:v=.bl (gD ws hs L[i]):=by
    rw [Af,Af,el] at hv
    exact (Option.some.inj hv).symm
   subst ev
   refine ⟨_,rfl,_,rfl,_,rfl,x,y,c1,n,ws,hs,L[i],rfl,g1.same s2,e2,hl1000 _ (Ct hlt),fun H3 s3=>?_⟩
   exact k' _ H3 ⟨_,rfl⟩ s3
  ·intro H2 s2 q hq
   refine ⟨q,L.map (gD ws hs),rfl,SqL.of aB,_,rfl,?_⟩
   have s3:=s2.trans (aE.new (o:=.lst ((L.map (gD ws hs)).map V.bl)) hq)
   generalize upd H2 q (.lst ((L.map (gD ws hs)).map V.bl))=H3 at s3 ⊢
   have eall:(L.map (gD ws hs)).all id=L.all (gD ws hs):=by rw [Du]; rfl
   rw [eall]
   by_cases ha:L.all (gD ws hs)=true
   ·rw [ha]
    refine cE ?_
    have hok:∀ st∈L,gD ws hs st=true:=fun st h=>Bf.mp ha st h
    have hp3:∀ {H':Hp},aE H3 H'->SqL K H' p xs:=fun z=>z.seqL (s3.seqL hp1)
    have nth:∀ {H':Hp} {i:Nat} {u:V},aE H3 H'->xs[i]?=some u->∃ (c:Addr) (st:List Int) (kk gg tt:Int),u=.ref c/\L[i]?=some st/\st = [kk,gg,tt]/\SqT K H' c [.int kk,.int gg,.int tt]:=fun {H' i u} z hu=>by
     have hlt:i < L.length:=by have:=(Ad.mp hu).1; omega
     have el:L[i]?=some L[i]:=Ae hlt
     obtain ⟨c1,e1,e2⟩:=jT (z.denAll _ _ (s3.denAll _ _ hd1)) el
     rw [hu] at e1
     obtain ⟨kk,gg,tt,e3⟩:=uB (hok _ (Ct hlt))
     rw [e3] at e2
     exact ⟨c1,L[i],kk,gg,tt,Option.some.inj e1,el,e3,e2⟩
    have h0:0 < xs.length:=by
     have:=Ev.mpr hne
     omega
    obtain ⟨c0,st0,k0,g0,t0,e0,el0,es0,q0⟩:=nth (aE.refl H3) (Ae h0)
    refine ⟨_,rfl,p,_,0,.ref c0,rfl,rfl,hp3 (aE.refl H3),dJ (by rw [Ae h0,e0]),c0,_,1,.int g0,rfl,rfl,q0,rfl,sz1 _,fun l1 hl1=>?_⟩
    have s4:=aE.new (o:=.lst [.int g0]) hl1
    have a4:upd H3 l1 (.lst [.int g0]) l1=some (.lst [.int g0]):=aB
    generalize upd H3 l1 (.lst [.int g0])=H4 at s4 a4 ⊢
    refine ⟨_,rfl,p,rfl,⟨_,hp3 s4⟩,xA (K:=K) (a:=p) (xs:=xs) (vs:=(L.map rR).map V.int) (fun σ=>∃ v,σ = [v]) (by omega) (by simp [hxl]) (hp3 s4) ⟨none,rfl⟩ ?_ ?_⟩
    ·rintro i u v σ H5 hu hv ⟨v0,rfl⟩ s5 Q' k'
     obtain ⟨c1,st,kk,gg,tt,rfl,el,rfl,q1⟩:=nth (s4.trans s5) hu
     have ev:v=.int tt:=by
      rw [Af,Af,el] at hv
      exact (Option.some.inj hv).symm
     subst ev
     exact ⟨_,rfl,c1,_,2,.int tt,rfl,rfl,q1,rfl,k' _ H5 ⟨_,rfl⟩ (aE.refl H5)⟩
    ·intro H5 s5 l2 hl2
     have s6:=aE.new (o:=.lst ((L.map rR).map V.int)) hl2
     have a6:=s6 _ _ (s5 _ _ a4)
     have b6:upd H5 l2 (.lst ((L.map rR).map V.int)) l2=some (.lst ((L.map rR).map V.int)):=aB
     generalize upd H5 l2 (.lst ((L.map rR).map V.int))=H6 at s6 a6 b6 ⊢
     refine ⟨l1,l2,_,_,rfl,rfl,a6,b6,aCr (by simp; omega),fun l3 hl3=>?_⟩
     have epass : [V.int g0]++(L.map rR).map V.int=(bP L).map V.int:=by
      cases L with
      | nil=>exact absurd rfl hne
      | cons s r =>
       have:s=st0:=Option.some.inj el0
       subst this
       rw [es0]
       rfl
     rw [epass]
     have s7:=aE.new (o:=.lst ((bP L).map V.int)) hl3
     have b7:upd H6 l3 (.lst ((bP L).map V.int)) l3=some (.lst ((bP L).map V.int)):=aB
     generalize upd H6 l3 (.lst ((bP L).map V.int))=H7 at s7 b7 ⊢
     have s37:=((s4.trans s5).trans s6).trans s7
     have pl:=zZ hne
     refine ⟨_,rfl,_,rfl,p,l3,xs,_,rfl,hp3 s37,SqL.of b7,aCs (K:=K) (k1:=.l) (k2:=.l) (a:=p) (b:=l3) (xs:=xs) (zs:=(bP L).map V.int) (vs:=((L.zip (bP L)).map fun q=>jS q.1==q.2).map V.bl) (fun σ=>∃ u v,σ = [u,v]) (by omega) (by simp; omega) (by simp [pl]; omega)
      (fun H' z=>⟨hp3 (s37.trans z),SqL.of (z _ _ b7)⟩) ⟨none,none,rfl⟩ ?_ ?_⟩
     ·rintro i u z v q σ H8 hu hz hv hq ⟨u0,v0,rfl⟩ s8 Q' k'
      have s9:=aE.new (o:=.tup [u,z]) hq
      obtain ⟨c1,st,kk,gg,tt,rfl,el,rfl,q1⟩:=nth ((s37.trans s8).trans s9) hu
      obtain ⟨zz,hzz,rfl⟩:∃ zz,(bP L)[i]?=some zz/\V.int zz=z:=by
       rw [Af] at hz
       cases e:(bP L)[i]? with
       | none=>rw [e] at hz; cases hz
       | some zz=>rw [e] at hz; exact ⟨zz,rfl,Option.some.inj hz⟩
      have ev:v=.bl (gg==zz):=by
       have e1:(L.zip (bP L))[i]?=some ([kk,gg,tt],zz):=by rw [By]; exact ⟨el,hzz⟩
       rw [Af,Af,e1] at hv
       exact (Option.some.inj hv).symm
      subst ev
      refine ⟨q,_,rfl,SqT.of aB,rfl,_,_,rfl,_,_,rfl,rfl,?_⟩
      refine ⟨_,rfl,c1,_,1,.int gg,rfl,rfl,q1,rfl,_,rfl,rfl,?_⟩
      have eb:decide (V.int gg=V.int zz)=(gg==zz):=by
       by_cases e:gg=zz
       ·subst e; simp
       ·rw [decide_eq_false (fun q=>e (V.int.inj q))]; exact (beq_eq_false_iff_ne.mpr e).symm
      rw [eb]
      exact k' _ _ ⟨_,_,rfl⟩ s9
     ·intro H8 s8 l4 hl4
      refine ⟨l4,(L.zip (bP L)).map (fun q=>jS q.1==q.2),rfl,SqL.of aB,?_⟩
      have s9:=s8.trans (aE.new (o:=.lst (((L.zip (bP L)).map fun q=>jS q.1==q.2).map V.bl)) hl4)
      generalize upd H8 l4 (.lst (((L.zip (bP L)).map fun q=>jS q.1==q.2).map V.bl))=H9 at s9 ⊢
      have ef:((L.zip (bP L)).map fun q=>jS q.1==q.2).all id=qA L:=by rw [Du]; rfl
      rw [ef]
      have kk:=fun H' (z:aE H9 H')=>k H' ((s1.trans (s3.trans s37)).trans (s9.trans z))
      have ew:rS ws hs L=(qA L && decide ((bP L).Nodup)):=by
       unfold rS
       rw [ha]
       cases L with
       | nil=>exact absurd rfl hne
       | cons _ _=>rfl
      rw [ew] at kk
      refine ⟨_,rfl,_,rfl,?_⟩
      refine cF (fun c1=>?_) (fun c1=>?_)
      ·rw [c1] at kk
       refine ⟨_,rfl,l3,bP L,rfl,SqL.of (s9 _ _ b7),by omega,fun l5 hl5=>?_⟩
       have s10:=aE.new (o:=.set (fun k=>decide (k∈bP L)) (kA (bP L))) hl5
       refine ⟨l5,_,_,rfl,aB,_,rfl,l3,_,rfl,.inl (SqL.of (s10 _ _ (s9 _ _ b7))),rfl,?_⟩
       have e2:decide (V.int (kA (bP L):Nat)=V.int ((bP L).map V.int).length)=decide ((bP L).Nodup):=by
        rw [Cm,decide_eq_true_iff,decide_eq_true_iff,<- zH,Ac]
        constructor
        ·intro z; have:=V.int.inj z; omega
        ·intro z; rw [z]
       rw [e2]
       exact kk _ s10
      ·rw [Dy] at c1
       rw [c1] at kk
       exact kk H9 (aE.refl _)
   ·rw [Dy] at ha
    rw [ha]
    refine eR ?_
    have e:rS ws hs L=false:=by unfold rS; rw [ha]; simp
    rw [e] at k
    exact k H3 (s1.trans s3)
end
end Ab
namespace Ab
def gH (ws:List (List Int)) (hs:List Int) (g:Int) (w:Nat) (t:Int):Prop:=hs[w]?=some g/\∃ l,ws[w]?=some l/\t∈l/\t≠g
def RL (ws:List (List Int)) (hs:List Int):Nat->Int->Int->Prop
 | 0,h,x=>h=x
 | k+1,h,x=>h=x∨∃ w o,gH ws hs h w o/\RL ws hs k o x
def eK (ws:List (List Int)) (hs:List Int):Int->List (Nat×Int×Int)->Int->Prop
 | h,[],x=>h=x
 | h,s::r,x=>s.2.1=h/\gH ws hs h s.1 s.2.2/\eK ws hs s.2.2 r x
section
variable {ws:List (List Int)} {hs:List Int}
theorem RL.refl:∀ (k:Nat) (h:Int),RL ws hs k h h
 | 0,_=>rfl
 | _+1,_=>.inl rfl
theorem RL.succ:∀ {k:Nat} {h x:Int},RL ws hs k h x->RL ws hs (k+1) h x
 | 0,_,_,e=>.inl e
 | k+1,_,_,.inl e=>.inl e
 | k+1,_,_,.inr ⟨w,o,e,r⟩=>.inr ⟨w,o,e,RL.succ r⟩
theorem RL.mono {k m:Nat} {h x:Int} (r:RL ws hs k h x) (le:k<=m):RL ws hs m h x:=by
 induction le with
 | refl=>exact r
 | step _ ih=>exact ih.succ
theorem RL.snoc:∀ {k:Nat} {h g t:Int} {w:Nat},RL ws hs k h g->gH ws hs g w t->RL ws hs (k+1) h t
 | 0,_,_,_,w,e,d=>by subst e; exact .inr ⟨w,_,d,rfl⟩
 | k+1,_,_,_,w,.inl e,d=>by subst e; exact .inr ⟨w,_,d,RL.refl _ _⟩
 | k+1,_,_,_,_,.inr ⟨w',o,e,r⟩,d=>.inr ⟨w',o,e,RL.snoc r d⟩
theorem RL.closed {S:Int->Prop} (hc:∀ g w t,S g->gH ws hs g w t->S t):∀ {k:Nat} {h x:Int},S h->RL ws hs k h x->S x
 | 0,_,_,s,e=>e ▸ s
 | _+1,_,_,s,.inl e=>e ▸ s
 | _+1,_,_,s,.inr ⟨w,o,e,r⟩=>RL.closed hc (hc _ w o s e) r
theorem eK.snoc:∀ {h g:Int} {r:List (Nat×Int×Int)} {w:Nat} {t:Int},eK ws hs h r g->gH ws hs g w t->eK ws hs h (r++[(w,g,t)]) t
 | _,_,[],_,_,e,d=>by cases e; exact ⟨rfl,d,rfl⟩
 | _,_,_::_,_,_,⟨e1,e2,e3⟩,d=>⟨e1,e2,eK.snoc e3 d⟩
def nR (ws:List (List Int)) (hs:List Int) (n:Nat) (h v:Int):Prop:=(∃ x,RL ws hs n h x/\v=((hs.count x:Nat):Int))/\∀ k x,RL ws hs k h x->v<=((hs.count x:Nat):Int)
theorem nR.le {n:Nat} {h v:Int} (m:nR ws hs n h v):v<=((hs.count h:Nat):Int):=m.2 0 h rfl
theorem nR.edge {n:Nat} {h o v u:Int} {w:Nat} (m:nR ws hs n h v) (m2:nR ws hs n o u) (e:gH ws hs h w o):v<=u:=by
 obtain ⟨x,r,rfl⟩:=m2.1
 exact m.2 (n+1) x (show RL ws hs (n+1) h x from .inr ⟨w,o,e,r⟩)
def gT (n:Int) (ws:List (List Int)) (hs lv:List Int):Prop:=lv.length=n.toNat/\∀ (h:Nat) (v:Int),lv[h]?=some v->nR ws hs n.toNat h v/\((hs.count (h:Int):Nat):Int) - v < 2
def pJ (n:Int) (ws:List (List Int)) (hs:List Int) (ss:List (Nat×Int×Int)):Prop :=
 ∃ h x,ss≠[]/\eK ws hs h ss x/\(h::ss.map (·.2.2)).Nodup/\0<=h/\h < n/\RL ws hs n.toNat h x/\2<=((hs.count h:Nat):Int) - ((hs.count x:Nat):Int)
end
theorem lM:∀ (n:Nat) (l:List Int),l.Nodup->(∀ x∈l,0<=x/\x < (n:Int))->l.length<=n
 | 0,[],_,_=>Ai _
 | 0,x::_,_,h=>by have:=h x (.head _); omega
 | n+1,l,hn,h=>by
  by_cases hm:(n:Int)∈l
  ·have h1:=lM n (l.erase (n:Int)) (hn.erase _) fun x hx=>by
    have h2:=(hn.mem_erase_iff).mp hx
    have h3:=h x h2.2
    have:=h2.1
    omega
   rw [List.length_erase_of_mem hm] at h1
   omega
  ·have h1:=lM n l hn fun x hx=>by
    have h3:=h x hx
    have:x≠(n:Int):=fun z=>hm (z ▸ hx)
    omega
   omega
end Ab
namespace L2
open PySem
theorem aE.wr {H H':Hp} {a:Addr} {u:HO} (e:aE H H') (h:H a=none):aE H (upd H' a u):=fun b o q=>by
 rw [aJ (fun z=>by rw [z,h] at q; cases q)]
 exact e b o q
end L2
namespace Ab
open PySem L2
theorem nS {xs:List Int} {i:Nat} {v:V} (h:(xs.map V.int)[i]?=some v):∃ a,xs[i]?=some a/\v=.int a:=by
 rw [Af] at h
 cases q:xs[i]? with
 | none=>rw [q] at h; cases h
 | some a=>rw [q] at h; exact ⟨a,rfl,(Option.some.inj h).symm⟩
theorem aAa {n:Nat} {k:Int} (h0:0<=k) (h1:k < n):ixN n k=some k.toNat:=by
 unfold ixN
 rw [if_pos h0,if_pos (by omega)]
def rT (E:Nat->Int->Prop) (r:List (Key×V)):Prop:=(∀ k v,dU r k=some v->∃ (w:Nat) (t:Int),k=.inl t/\v=.int (w:Nat)/\E w t)/\∀ w t,E w t->(dU r (.inl t)).isSome=true
theorem rT.nil {E:Nat->Int->Prop} (h:∀ w t,¬ E w t):rT E []:=⟨fun k v e=>(by rw [aCu] at e; cases e),fun w t e=>(h w t e).elim⟩
theorem rT.put {E:Nat->Int->Prop} {r:List (Key×V)} (h:rT E r) (w:Nat) (t:Int):rT (fun w' t'=>E w' t'∨(w'=w/\t'=t)) (jD r (.inl t) (.int (w:Nat))):=by
 refine ⟨fun k v e=>?_,fun w' t' e=>?_⟩
 ·rw [xC] at e
  by_cases hk:k=Sum.inl t
  ·rw [if_pos hk] at e
   exact ⟨w,t,hk,(Option.some.inj e).symm,.inr ⟨rfl,rfl⟩⟩
  ·rw [if_neg hk] at e
   obtain ⟨w',t',h1,h2,h3⟩:=h.1 k v e
   exact ⟨w',t',h1,h2,.inl h3⟩
 ·rw [xC]
  by_cases hk:(Sum.inl t':Key)=Sum.inl t
  ·rw [if_pos hk]; rfl
  ·rw [if_neg hk]
   rcases e with e | ⟨_,e⟩
   ·exact h.2 w' t' e
   ·exact absurd (by rw [e]) hk
theorem rT.congr {E E':Nat->Int->Prop} {r:List (Key×V)} (h:rT E r) (e:∀ w t,E w t↔E' w t):rT E' r:=⟨fun k v q=>let ⟨w,t,a,b,c⟩:=h.1 k v q; ⟨w,t,a,b,(e w t).mp c⟩,fun w t q=>h.2 w t ((e w t).mpr q)⟩
structure Rows (H:Hp) (rp:Addr) (qs:List Addr) (rs:List (List (Key×V))):Prop where
 lst:H rp=some (.lst (qs.map V.ref))
 len:qs.length=rs.length
 nd:qs.Nodup
 row:∀ (g:Nat) q r,qs[g]?=some q->rs[g]?=some r->H q=some (.dK r)
theorem Rows.same {H H':Hp} {rp:Addr} {qs:List Addr} {rs:List (List (Key×V))} (h:Rows H rp qs rs) (s:aE H H'):Rows H' rp qs rs:=⟨s _ _ h.lst,h.len,h.nd,fun g q r a b=>s _ _ (h.row g q r a b)⟩
theorem Rows.put {H:Hp} {rp:Addr} {qs:List Addr} {rs:List (List (Key×V))} (h:Rows H rp qs rs) {g:Nat} {q:Addr} {r r':List (Key×V)} (hq:qs[g]?=some q) (hr:rs[g]?=some r):Rows (upd H q (.dK r')) rp qs (rs.set g r'):=by
 have hg:=h.row g q r hq hr
 have nq:rp≠q:=fun z=>by have:=h.lst; rw [z,hg] at this; cases this
 refine ⟨by rw [aJ nq]; exact h.lst,by rw [Cp]; exact h.len,h.nd,fun g2 q2 r2 h1 h2=>?_⟩
 rw [Di] at h2
 by_cases e:g=g2
 ·subst e
  rw [if_pos rfl] at h2
  rw [hq] at h1
  cases h1
  by_cases hl:g < rs.length
  ·rw [if_pos hl] at h2; cases h2; exact aB
  ·rw [if_neg hl] at h2; cases h2
 ·rw [if_neg e] at h2
  have n2:q2≠q:=fun z=>by
   subst z
   have hlt:g < qs.length:=(Ad.mp hq).1
   exact e ((List.getElem?_inj hlt h.nd).mp (hq.trans h1.symm))
  rw [aJ n2]
  exact h.row g2 q2 r2 h1 h2
theorem Rows.other {H:Hp} {rp a:Addr} {u:HO} {qs:List Addr} {rs:List (List (Key×V))} (h:Rows H rp qs rs) (hn:H a=none):Rows (upd H a u) rp qs rs:=h.same (aE.new hn)
def rV (E:Int->Nat->Int->Prop) (rs:List (List (Key×V))) (m:Nat):Prop:=∀ (g:Nat) r,rs[g]?=some r->rT (E g) r/\r.length<=m
section
variable {P:Program} {w:World} {K:PySem.W.Frag} {mg:Str->Option Value} {base:Heap}
def uC (K:PySem.W.Frag):Sp:=fun vs H Q _=>∃ x y n ws hs,vs = [x,y]/\fY K H x y n ws hs/\∀ rp H' qs rs,aE H H'->H rp=none->(∀ q∈qs,H q=none)->Rows H' rp qs rs->rs.length=n.toNat->rV (gH ws hs) rs 100->Q (.ref rp) H'
theorem cU:FnScope ["book", "deal", "rows", "work", "giver", "able", "taker"] ["book", "deal"] (aH gO):=⟨rfl,rfl,rfl,by decide +kernel,rfl,by decide +kernel,by decide +kernel⟩
theorem aAb {f:Addr} {fd:FuncData} (G:Fn K mg "handing" gO ["book", "deal"] f fd) (B:Bl mg):FnOk P w K mg base CX0 1 f fd ["book", "deal"] (uC K):=by
 refine G.fn.ok cU (fun vs H Q E h=>?_) (fun cdv A outer s H vs Q E hr h=>?_)
 ·obtain ⟨x,y,n,ws,hs,rfl,_⟩:=h
  rfl
 ·obtain ⟨x,y,n,ws,hs,rfl,g,k⟩:=h
  refine ⟨_,(aD (gF (i:=2) (own:=["hand"]) (fr:=[]) (frn:=[]) (aU (aH gO) ["book", "deal", "rows", "work", "giver", "able", "taker"] rfl rfl (by decide +kernel)) rfl cU.nd rfl rfl rfl (eE rfl B.range (aA (bA bK (pv 0) aG (fun _ _=>rfl)) aC))
    (fun _ _ _ _=>(aI (i:=0) (show (["hand"]:List Str).Nodup by decide +kernel) rfl (Or.inl rfl))) (fun _ _ _ _=>cT)
    (fun _ _ _ _=>xH))
   (aD (eU PassesOwn.never rfl (qY .t .t rfl B.enumerate rfl B.zip (aA (pv 1) (aA (bA bK (pv 0) aG (fun _ _=>rfl)) aC))) (eG rfl (aO (aI (i:=3) cU.nd rfl (Or.inl rfl)) (aO (eG rfl (aO (aI (i:=4) cU.nd rfl (Or.inl rfl)) (aO (aI (i:=5) cU.nd rfl (Or.inl rfl)) cH))) cH)))
    (aF (eU PassesOwn.never rfl (eA (pv 5)) (aI (i:=6) cU.nd rfl (Or.inl rfl))
     (aF (bJ (aL iZ (pv 6) (pv 4) (aN _))
      (aF (vB (pA hr) (bA cI (pv 2) (pv 4) (fun _ _=>rfl)) (pv 6) (pv 3) rfl))
      aT)))))
   (aF (aQ (pv 2))))),?_⟩
  obtain ⟨hl12,hn1,hn6⟩:=g.len
  obtain ⟨a,b,ys,rfl,ha,hb2,hys⟩:=cR g.1
  obtain ⟨c0,rfl,hc0⟩:=aX.mp g.2.2.1
  obtain ⟨hdl,hdg⟩:=cX g.2.2.2
  obtain ⟨_,_,hw12,hws⟩:=bG g.2.1
  have hlw:=aP hys
  rw [Ac] at hlw
  refine ⟨_,rfl,a,_,0,.int n,rfl,rfl,ha,rfl,n,rfl,by omega,by omega,fQ (lo:=0) (n:=n.toNat) (fun σ=>∃ v,σ = [v]) (fun i zs H2=>∃ qs:List Addr,zs=qs.map V.ref/\qs.length=i/\aE H H2/\qs.Nodup/\∀ q∈qs,H q=none/\H2 q=some (.dK [])) ?_ ⟨none,rfl⟩ ⟨[],rfl,rfl,aE.refl H,Gk,fun _ h=>(Ap h).elim⟩ ?_ ?_ ?_⟩
  ·rw [sizeLine_eq]; omega
  ·rintro i zs H2 ⟨qs,rfl,hq,_⟩
   rw [Ac]; omega
  ·rintro i zs σ H2 hi ⟨v,rfl⟩ ⟨qs,rfl,hq,s2,nd,hqs⟩ hz
   refine cW ?_
   intro p hp
   refine ⟨hz,⟨_,rfl⟩,qs++[p],by rw [Ay]; rfl,by rw [Aq,hq]; rfl,s2.trans (aE.new hp),?_,fun q hq'=>?_⟩
   ·rw [Fk]
    refine ⟨nd,by simp,fun x hx y hy e=>?_⟩
    rw [An.mp hy] at e
    have:=(hqs x hx).2
    rw [e,hp] at this; cases this
   ·rcases Bp.mp hq' with h | h
    ·exact ⟨(hqs q h).1,(aE.new hp) _ _ (hqs q h).2⟩
    ·rw [An.mp h]
     exact ⟨s2.free hp,aB⟩
  ·rintro zs H2 ⟨qs,rfl,hq,s2,nd,hqs⟩ rp hrp
   have s3:=s2.trans (aE.new (o:=.lst (qs.map V.ref)) hrp)
   have hrp0:H rp=none:=s2.free hrp
   have R3:Rows (upd H2 rp (.lst (qs.map V.ref))) rp qs (List.replicate n.toNat []):=⟨aB,by rw [Bn]; exact hq,nd,fun g q r h1 h2=>by
    have er:r = []:=by
     rw [Bx] at h2
     split at h2
     ·exact (Option.some.inj h2).symm
     ·cases h2
    rw [er]
    exact (aE.new hrp) _ _ (hqs q (Ah h1)).2⟩
   generalize upd H2 rp (.lst (qs.map V.ref))=H3 at s3 R3 ⊢
   have h6:∀ l∈ws,l.length<=6:=fun l hl=>by
    obtain ⟨_,w2,w3⟩:=bL (hws l hl)
    have:=eQ (by omega) w2 w3
    omega
   refine ⟨_,rfl,_,rfl,a,_,1,.ref b,rfl,rfl,s3.seqT ha,rfl,c0,b,_,_,rfl,s3.seqT hc0,s3.seqT hb2,pG (K:=K) (k1:=.t) (k2:=.t) (a:=c0) (b:=b) (xs:=hs.map V.int) (ys:=ys)
    (fun i σ H4=>(∃ v3 v4 v5 v6,σ = [some (.ref a),some (.ref c0),some (.ref rp),v3,v4,v5,v6])/\aE H H4/\∃ rs,Rows H4 rp qs rs/\rs.length=n.toNat/\rV (fun g w t=>w < i/\gH ws hs g w t) rs (6*i))
    (by rw [Ac]; omega) ⟨⟨_,_,_,_,rfl⟩,s3,_,R3,Bn,fun g r hr=>?_⟩ (fun _ σ H4 _ ⟨_,s4,_⟩=>⟨s4.seqT hc0,s4.seqT hb2⟩) ?_ ?_⟩
   ·have er:r = []:=by
     rw [Bx] at hr
     split at hr
     ·exact (Option.some.inj hr).symm
     ·cases hr
    rw [er]
    exact ⟨rT.nil fun w t h=>by omega,Bo _⟩
   ·rintro i u v p q σ H4 hu hv ⟨⟨v3,v4,v5,v6,rfl⟩,s4,rs,R4,hl4,E4⟩ hp hq hne
    obtain ⟨h,hh,rfl⟩:=nS hu
    obtain ⟨dv,hdv,denv⟩:=cQ hys hv
    rw [Af] at hdv
    obtain ⟨l,hl,rfl⟩:∃ l,ws[i]?=some l/\bF l=dv:=by
     cases q:ws[i]? with
     | none=>rw [q] at hdv; cases hdv
     | some l=>rw [q] at hdv; exact ⟨l,rfl,Option.some.inj hdv⟩
    obtain ⟨aw,rfl,haw⟩:=aX.mp denv
    obtain ⟨hh0,hh1⟩:=g.hand hh
    have hl6:=h6 l (Ah hl)
    have hi12:i < 12:=by
     have:=(Ad.mp hh).1
     omega
    have sp:=aE.new (o:=.tup [.int h,.ref aw]) hp
    have hq1:upd H4 p (.tup [.int h,.ref aw]) q=none:=by rw [aJ hne]; exact hq
    have sq:=aE.new (o:=.tup [.int (i:Nat),.ref p]) hq1
    have ep:upd (upd H4 p (.tup [.int h,.ref aw])) q (.tup [.int (i:Nat),.ref p]) p=some (.tup [.int h,.ref aw]):=sq _ _ aB
    have eq:upd (upd H4 p (.tup [.int h,.ref aw])) q (.tup [.int (i:Nat),.ref p]) q=some (.tup [.int (i:Nat),.ref p]):=aB
    have s5:=s4.trans (sp.trans sq)
    have R5:=R4.same (sp.trans sq)
    generalize upd (upd H4 p (.tup [.int h,.ref aw])) q (.tup [.int (i:Nat),.ref p])=H5 at ep eq s5 R5 ⊢
    refine ⟨q,_,rfl,SqT.of eq,rfl,_,_,rfl,_,_,rfl,p,_,rfl,SqT.of ep,rfl,_,_,rfl,_,_,rfl,rfl,rfl,?_⟩
    have hgl:h.toNat < qs.length:=by rw [R5.len,hl4]; omega
    obtain ⟨qh,hqh⟩:∃ qh,qs[h.toNat]?=some qh:=⟨_,Ae hgl⟩
    have hcast:((h.toNat:Nat):Int)=h:=by omega
    refine ⟨_,rfl,aw,rfl,⟨_,s5.seqT haw⟩,uS (K:=K) (a:=aw) (xs:=l.map V.int) (fun j σ H6=>(∃ v6,σ = [some (.ref a),some (.ref c0),some (.ref rp),some (.int (i:Nat)),some (.int h),some (.ref aw),v6])/\aE H H6/\∃ rs,Rows H6 rp qs rs/\rs.length=n.toNat/\rV (fun g w t=>(w < i/\gH ws hs g w t)∨(w=i/\g=h/\t∈l.take j/\t≠h)) rs (6*i+j))
     ⟨⟨_,rfl⟩,s5,rs,R5,hl4,fun g r hr=>⟨(E4 g r hr).1.congr fun w t=>⟨.inl,fun z=>z.elim id fun z=>by rw [Em] at z; exact (Ap z.2.2.1).elim⟩,(E4 g r hr).2⟩⟩ (fun _ σ H6 _ ⟨_,s6,_⟩=>s6.seqT haw) ?_ ?_⟩
    ·rintro j tv σ H6 htv ⟨⟨v6,rfl⟩,s6,rs,R6,hl6',E6⟩
     obtain ⟨t,ht,rfl⟩:=nS htv
     have hj:j < l.length:=(Ad.mp ht).1
     have etake:l.take (j+1)=l.take j++[t]:=by rw [Bm,ht]; rfl
     refine ⟨_,rfl,_,rfl,rfl,_,rfl,?_⟩
     refine cF (fun c=>?_) (fun c=>?_)
     ·have hth:t≠h:=fun z=>by rw [z] at c; simp at c
      obtain ⟨r,hr⟩:∃ r,rs[h.toNat]?=some r:=⟨_,Ae (by rw [hl6']; omega)⟩
      have hat:atI (qs.map V.ref) h=some (.ref qh):=by
       have:=dJ (xs:=qs.map V.ref) (j:=h.toNat) (v:=.ref qh) (by rw [Af,hqh]; rfl)
       rwa [hcast] at this
      have hrow:=R6.row _ _ _ hqh hr
      have hrl:=(E6 _ _ hr).2
      have hqH:H qh=none:=(hqs qh (Ah hqh)).1
      refine ⟨_,rfl,_,rfl,_,rfl,rp,_,h,_,rfl,rfl,SqL.of R6.lst,hat,_,rfl,qh,_,rfl,uY.k (k:=.inl t) hrow (by rw [sizeLine_eq]; omega),?_⟩
      refine ⟨⟨_,rfl⟩,s6.wr hqH,rs.set h.toNat (jD r (.inl t) (.int (i:Nat))),R6.put hqh hr,by rw [Cp]; exact hl6',fun g2 r2 hr2=>?_⟩
      rw [Di] at hr2
      by_cases eg:h.toNat=g2
      ·rw [if_pos eg,if_pos (by rw [hl6']; omega)] at hr2
       cases hr2
       have eg':((g2:Nat):Int)=h:=by omega
       refine ⟨((E6 _ _ hr).1.put i t).congr fun w t'=>?_,At (iQ _ _ _) (by omega)⟩
       rw [hcast,eg',etake]
       constructor
       ·rintro ((z | ⟨z1,z2,z3,z4⟩) | ⟨z1,z2⟩)
        ·exact .inl z
        ·exact .inr ⟨z1,z2,Cf _ z3,z4⟩
        ·exact .inr ⟨z1,rfl,by rw [z2]; simp,by rw [z2]; exact hth⟩
       ·rintro (z | ⟨z1,z2,z3,z4⟩)
        ·exact .inl (.inl z)
        ·rcases Bp.mp z3 with z3 | z3
         ·exact .inl (.inr ⟨z1,z2,z3,z4⟩)
         ·exact .inr ⟨z1,An.mp z3⟩
      ·rw [if_neg eg] at hr2
       refine ⟨(E6 _ _ hr2).1.congr fun w t'=>?_,At (E6 _ _ hr2).2 (by omega)⟩
       have ng:¬ ((g2:Nat):Int)=h:=by omega
       constructor
       ·rintro (z | ⟨_,z2,_⟩)
        ·exact .inl z
        ·exact absurd z2 ng
       ·rintro (z | ⟨_,z2,_⟩)
        ·exact .inl z
        ·exact absurd z2 ng
     ·have hth:t=h:=by simpa using c
      refine ⟨⟨_,rfl⟩,s6,rs,R6,hl6',fun g2 r2 hr2=>⟨(E6 _ _ hr2).1.congr fun w t'=>?_,At (E6 _ _ hr2).2 (by omega)⟩⟩
      rw [etake]
      constructor
      ·rintro (z | ⟨z1,z2,z3,z4⟩)
       ·exact .inl z
       ·exact .inr ⟨z1,z2,Cf _ z3,z4⟩
      ·rintro (z | ⟨z1,z2,z3,z4⟩)
       ·exact .inl z
       ·rcases Bp.mp z3 with z3 | z3
        ·exact .inr ⟨z1,z2,z3,z4⟩
        ·exact absurd ((An.mp z3).trans hth) z4
    ·rintro σ H6 ⟨⟨v6,rfl⟩,s6,rs,R6,hl6',E6⟩
     refine ⟨⟨_,_,_,_,rfl⟩,s6,rs,R6,hl6',fun g2 r2 hr2=>⟨(E6 _ _ hr2).1.congr fun w t'=>?_,At (E6 _ _ hr2).2 (by rw [Ac]; omega)⟩⟩
     rw [Ac,Bv]
     constructor
     ·rintro (⟨z1,z2⟩ | ⟨z1,z2,z3,z4⟩)
      ·exact ⟨by omega,z2⟩
      ·subst z1
       exact ⟨by omega,by rw [hh,z2],l,hl,z3,by rw [z2]; exact z4⟩
     ·rintro ⟨z1,z2⟩
      by_cases hw:w < i
      ·exact .inl ⟨hw,z2⟩
      ·have ew:w=i:=by omega
       subst ew
       obtain ⟨z3,l',z4,z5,z6⟩:=z2
       rw [hh] at z3
       rw [hl] at z4
       cases z4
       have ez:h=g2:=Option.some.inj z3
       exact .inr ⟨rfl,ez.symm,z5,by rw [ez]; exact z6⟩
   ·rintro σ H4 ⟨⟨v3,v4,v5,v6,rfl⟩,s4,rs,R4,hl4,E4⟩
    refine ⟨_,rfl,k rp H4 qs rs s4 hrp0 (fun q hq=>(hqs q hq).1) R4 hl4 fun g r hr=>⟨(E4 g r hr).1.congr fun w t=>⟨fun z=>z.2,fun z=>⟨?_,z⟩⟩,At (E4 g r hr).2 (by rw [Ac]; omega)⟩⟩
    rw [Ac]
    exact (Ad.mp z.1).1
end
def Tp (H H':Hp):Prop:=∀ p xs,H p=some (.tup xs)->H' p=some (.tup xs)
theorem Tp.of {H H':Hp} (s:aE H H'):Tp H H':=fun _ _ h=>s _ _ h
theorem Tp.trans {H H1 H2:Hp} (a:Tp H H1) (b:Tp H1 H2):Tp H H2:=fun p xs h=>b p xs (a p xs h)
theorem Tp.upd {H:Hp} {a:Addr} {u:HO} (h:∀ xs,H a≠some (.tup xs)):Tp H (upd H a u):=fun p xs e=>by
 have ne:p≠a:=fun z=>h xs (by rw [<- z]; exact e)
 rw [aJ ne]; exact e
theorem qB {fs:List (Key×V)} {os:List Int} (h:fs.map (·.1)=os.map Sum.inl) (t:Int):(dU fs (.inl t)).isSome=decide (t∈os):=by
 rw [<- gM]
 have:(fs.any fun kv=>decide (kv.1=Sum.inl t))=((fs.map (·.1)).any fun k=>decide (k=Sum.inl t)):=by rw [Gc]; rfl
 rw [this,h,Gc,Cm]
 simp
structure Tree (ws:List (List Int)) (hs:List Int) (n first:Int) (H:Hp) (fs:List (Key×V)) (os:List Int):Prop where
 keys:fs.map (·.1)=os.map Sum.inl
 nd:os.Nodup
 rng:∀ o∈os,0<=o/\o < n
 head:os[0]?=some first
 v0:dU fs (.inl first)=some .non
 par:∀ (j:Nat) (t:Int),0 < j->os[j]?=some t->∃ (p:Addr) (w:Nat) (g:Int) (i:Nat),dU fs (.inl t)=some (.ref p)/\H p=some (.tup [.int (w:Nat),.int g,.int t])/\gH ws hs g w t/\i < j/\os[i]?=some g
section
variable {ws:List (List Int)} {hs:List Int} {n first:Int} {H H':Hp} {fs:List (Key×V)} {os:List Int}
theorem Tree.tp (T:Tree ws hs n first H fs os) (e:Tp H H'):Tree ws hs n first H' fs os :=
 ⟨T.keys,T.nd,T.rng,T.head,T.v0,fun j t h0 h1=>let ⟨p,w,g,i,a,b,c⟩:=T.par j t h0 h1; ⟨p,w,g,i,a,e _ _ b,c⟩⟩
theorem Tree.len (T:Tree ws hs n first H fs os):os.length<=n.toNat:=lM _ _ T.nd fun x hx=>by have:=T.rng x hx; omega
theorem Tree.flen (T:Tree ws hs n first H fs os):fs.length=os.length:=by
 have:=congrArg Fl T.keys
 rwa [Ac,Ac] at this
theorem Tree.one (h0:0<=first) (h1:first < n):Tree ws hs n first H [(.inl first,.non)] [first] :=
 ⟨rfl,by simp,fun o ho=>by rw [An.mp ho]; exact ⟨h0,h1⟩,rfl,eD rfl,fun j t h2 h3=>by
  cases j with
  | zero=>omega
  | succ j=>simp at h3⟩
theorem Tree.grow (T:Tree ws hs n first H fs os) {p:Addr} {w:Nat} {g t:Int} {i:Nat} (hp:H p=some (.tup [.int (w:Nat),.int g,.int t])) (e:gH ws hs g w t) (hi:os[i]?=some g) (ht:t∉os) (r0:0<=t) (r1:t < n) :
  Tree ws hs n first H (fs++[(.inl t,.ref p)]) (os++[t]):=by
 have hv:dU fs (.inl t)=none:=by
  have:=qB T.keys t
  rw [decide_eq_false ht] at this
  cases q:dU fs (.inl t) with
  | none=>rfl
  | some v=>rw [q] at this; cases this
 have hlt:i < os.length:=(Ad.mp hi).1
 have val:∀ j:Key,dU (fs++[(.inl t,.ref p)]) j=if j=.inl t then some (.ref p) else dU fs j:=fun j=>oH _ _ _ _ hv
 have hf:first∈os:=Ah T.head
 refine ⟨by rw [Ay,Ay,T.keys]; rfl,?_,fun o ho=>?_,?_,?_,fun j t' h0 h1=>?_⟩
 ·rw [Fk]
  exact ⟨T.nd,by simp,fun x hx y hy z=>ht (by rw [<- An.mp hy,<- z]; exact hx)⟩
 ·rcases Bp.mp ho with h | h
  ·exact T.rng o h
  ·rw [An.mp h]; exact ⟨r0,r1⟩
 ·rw [Bk (by omega)]; exact T.head
 · rw [val, if_neg (fun z => ht (by have : first = t := by simpa using z
                                    rw [<- this]; exact hf))]
   exact T.v0
 ·by_cases hj:j < os.length
  ·rw [Bk hj] at h1
   obtain ⟨p',w',g',i',a,b,c,d,e'⟩:=T.par j t' h0 h1
   have ne : (Sum.inl t' : Key) ≠ Sum.inl t := fun z => ht (by have : t' = t := by simpa using z
                                                               rw [<- this]; exact Ah h1)
   exact ⟨p',w',g',i',by rw [val,if_neg ne]; exact a,b,c,d,by rw [Bk (by omega)]; exact e'⟩
  ·have ej:j=os.length:=by
    have:=(Ad.mp h1).1
    rw [Aq] at this
    simp at this
    omega
   subst ej
   rw [Cc (Ai _),Nat.sub_self] at h1
   have et:t'=t:=by simpa using h1.symm
   subst et
   exact ⟨p,w,g,i,by rw [val,if_pos rfl],hp,e,hlt,by rw [Bk hlt]; exact hi⟩
theorem Tree.rl (T:Tree ws hs n first H fs os):∀ (j:Nat) (t:Int),os[j]?=some t->RL ws hs j first t:=by
 intro j
 induction j using Nat.strongRecOn with
 | ind j ih =>
  intro t ht
  by_cases h0:j=0
  ·subst h0
   rw [T.head] at ht
   exact Option.some.inj ht
  ·obtain ⟨p,w,g,i,_,_,e,hi,hg⟩:=T.par j t (by omega) ht
   exact ((ih i hi g hg).snoc e).mono (by omega)
end
section
variable {P:Program} {w:World} {K:PySem.W.Frag} {mg:Str->Option Value} {base:Heap}
def aC3 (ws:List (List Int)) (hs os:List Int):Prop:=∀ g∈os,∀ w t,gH ws hs g w t->t∈os
def oQ (K:PySem.W.Frag):Sp:=fun vs H Q _=>∃ rp first qs rs n ws hs,vs = [.ref rp,.int first]/\Rows H rp qs rs/\rs.length=n.toNat/\rV (gH ws hs) rs 100/\(∀ g w t,gH ws hs g w t->0<=t/\t < n)/\n<=7/\0<=first/\first < n /\
 ∀ fd H' fs os,aE H H'->H fd=none->H' fd=some (.dK fs)->Tree ws hs n first H' fs os->aC3 ws hs os->Q (.ref fd) H'
theorem jH:FnScope ["rows", "first", "found", "waiting", "giver", "taker"] ["rows", "first"] (aH kP):=⟨rfl,rfl,rfl,by decide +kernel,rfl,by decide +kernel,by decide +kernel⟩
theorem rW {f:Addr} {fd:FuncData} (G:Fn K mg "reached" kP ["rows", "first"] f fd) (B:Bl mg):FnOk P w K mg base CX0 1 f fd ["rows", "first"] (oQ K):=by
 refine G.fn.ok jH (fun vs H Q E h=>?_) (fun cdv A outer s H vs Q E hr h=>?_)
 ·obtain ⟨rp,first,qs,rs,n,ws,hs,rfl,_⟩:=h
  rfl
 ·obtain ⟨rp,first,qs,rs,n,ws,hs,rfl,R,hlr,ER,hedge,hn6,hf0,hf1,k⟩:=h
  refine ⟨_,(aD (aV (i:=2) jH.nd rfl (Or.inl rfl) (aCy (pv 1) eF))
   (aD (aV (i:=3) jH.nd rfl (Or.inl rfl) (eV (aA (pv 1) aC)))
   (aD (mY PassesOwn.never (aB3 (pv 3) (fun _=>rfl))
    (aD (aV (i:=4) jH.nd rfl (Or.inl rfl) (oZ PySem.F.plainAttrs_list PySem.F.slot_list_pop PySem.F.type_list_pop aB8 (pv 3) (aA aG aC)))
    (aF (aAA (eU PassesOwn.never rfl (aAz (bA cI (pv 0) (pv 4) (fun _ _=>rfl))) (aI (i:=5) jH.nd rfl (Or.inl rfl))
     (aF (bJ (yN (aBr (pA hr) (pv 5) (pv 2)) (by with_unfolding_all rfl))
      (aD (vB (pA hr) (pv 2) (pv 5) (bX (aA (vA (pA hr) (bA cI (pv 0) (pv 4) (fun _ _=>rfl)) (pv 5) (fun _ _=>rfl)) (aA (pv 4) (aA (pv 5) aC)))) rfl)
      (aF (dZ (oZ PySem.F.plainAttrs_list PySem.F.slot_list_append PySem.F.type_list_append hX (pv 3) (aA (pv 5) aC)))))
      aT)))))))
   (aF (aQ (pv 2)))))),?_⟩
  intro fd0 hfd0
  refine ⟨_,rfl,.inl first,rfl,aB,?_⟩
  rw [aDs]
  have s1:=aE.new (o:=.dK [(.inl first,.non)]) hfd0
  have e1:upd H fd0 (.dK [(.inl first,.non)]) fd0=some (.dK [(.inl first,.non)]):=aB
  generalize upd H fd0 (.dK [(.inl first,.non)])=H1 at s1 e1 ⊢
  refine ⟨_,rfl,sz1 _,fun wt hwt=>?_⟩
  have hwt0:H wt=none:=s1.free hwt
  have nfw:fd0≠wt:=fun z=>by rw [z,hwt] at e1; cases e1
  have s2:=s1.trans (aE.new (o:=.lst [.int first]) hwt)
  have e2:=(aE.new (o:=.lst [.int first]) hwt) _ _ e1
  have w2:upd H1 wt (.lst [.int first]) wt=some (.lst [.int first]):=aB
  generalize upd H1 wt (.lst [.int first])=H2 at s2 e2 w2 ⊢
  -- the while
  refine ⟨fun m σ H3=>∃ (v4 v5:Option V) (mm:Nat) (fs:List (Key×V)) (os:List Int),σ = [some (.ref rp),some (.int first),some (.ref fd0),some (.ref wt),v4,v5]/\m=n.toNat - mm/\aE H H3/\H3 fd0=some (.dK fs)/\H3 wt=some (.lst ((os.drop mm).map V.int))/\Tree ws hs n first H3 fs os/\mm<=os.length /\
    ∀ (i:Nat) (g:Int),i < mm->os[i]?=some g->∀ w t,gH ws hs g w t->t∈os,
   ⟨n.toNat - 0,none,none,0,_,[first],rfl,rfl,s2,e2,w2,Tree.one hf0 hf1,Bo _,fun i g hi=>absurd hi (Db _)⟩,?_⟩
  rintro m σ H3 ⟨v4,v5,mm,fs,os,rfl,rfl,s3,e3,w3,T3,hmm,pr3⟩
  refine ⟨_,rfl,!((os.drop mm).map V.int).isEmpty,.inl ⟨_,SqL.of w3,rfl⟩,?_⟩
  by_cases hend:mm < os.length
  ·-- a turn
   have hne:(os.drop mm)≠[]:=by
    intro z
    have:=congrArg Fl z
    rw [Cn] at this
    simp at this
    omega
   have hb:(!((os.drop mm).map V.int).isEmpty)=true:=by
    cases q:os.drop mm with
    | nil=>exact absurd q hne
    | cons _ _=>rfl
   rw [hb]
   refine eR ?_
   have hdrop:os.drop mm=os[mm]::os.drop (mm+1):=Fe hend
   have hgm:os[mm]?=some (os[mm]):=Ae hend
   generalize os[mm]=g at hdrop hgm
   obtain ⟨hg0,hg1⟩:=T3.rng g (Ah hgm)
   have holen:=T3.len
   refine ⟨fun σ' H'=>∃ m',m' < n.toNat - mm/\∃ (v4 v5:Option V) (mm:Nat) (fs:List (Key×V)) (os:List Int),σ' = [some (.ref rp),some (.int first),some (.ref fd0),some (.ref wt),v4,v5]/\m'=n.toNat - mm/\aE H H'/\H' fd0=some (.dK fs)/\H' wt=some (.lst ((os.drop mm).map V.int))/\Tree ws hs n first H' fs os/\mm<=os.length /\
    ∀ (i:Nat) (g:Int),i < mm->os[i]?=some g->∀ w t,gH ws hs g w t->t∈os,fun σ' H' z=>z,?_⟩
   refine ⟨_,rfl,.inl ⟨rfl,_,SqL.of w3⟩,?_⟩
   have hx0:((os.drop mm).map V.int)[0]?=some (.int g):=by rw [hdrop]; rfl
   have hxl:0 < ((os.drop mm).map V.int).length:=(Ad.mp hx0).1
   refine ⟨wt,_,0,0,.int g,rfl,rfl,w3,by decide,by decide,nK (i:=0) (by decide) hxl,hx0,?_⟩
   have her:((os.drop mm).map V.int).eraseIdx 0=(os.drop (mm+1)).map V.int:=by rw [hdrop]; rfl
   rw [her]
   have s4:=s3.wr (u:=.lst ((os.drop (mm+1)).map V.int)) hwt0
   have e4:upd H3 wt (.lst ((os.drop (mm+1)).map V.int)) fd0=some (.dK fs):=by rw [aJ nfw]; exact e3
   have w4:upd H3 wt (.lst ((os.drop (mm+1)).map V.int)) wt=some (.lst ((os.drop (mm+1)).map V.int)):=aB
   have T4:=T3.tp (Tp.upd (a:=wt) (u:=.lst ((os.drop (mm+1)).map V.int)) fun xs z=>by rw [w3] at z; cases z)
   generalize upd H3 wt (.lst ((os.drop (mm+1)).map V.int))=H4 at s4 e4 w4 T4 ⊢
   -- the row
   have R4:=R.same s4
   have hgl:g.toNat < qs.length:=by rw [R.len,hlr]; omega
   have hcast:((g.toNat:Nat):Int)=g:=by omega
   obtain ⟨qg,hqg⟩:∃ q,qs[g.toNat]?=some q:=⟨_,Ae hgl⟩
   obtain ⟨r,hr⟩:∃ r,rs[g.toNat]?=some r:=⟨_,Ae (by rw [hlr]; omega)⟩
   have hat:atI (qs.map V.ref) g=some (.ref qg):=by
    have:=dJ (xs:=qs.map V.ref) (j:=g.toNat) (v:=.ref qg) (by rw [Af,hqg]; rfl)
    rwa [hcast] at this
   have hrow:=R.row _ _ _ hqg hr
   have hrow4:=s4 _ _ hrow
   obtain ⟨hRE,hRl⟩:=ER _ _ hr
   rw [hcast] at hRE
   have nqf:qg≠fd0:=fun z=>by rw [z,hfd0] at hrow; cases hrow
   have nqw:qg≠wt:=fun z=>by rw [z,hwt0] at hrow; cases hrow
   have nqr:rp≠qg:=fun z=>by have:=R.lst; rw [z,hrow] at this; cases this
   refine ⟨_,rfl,_,rfl,rp,_,g,_,rfl,rfl,SqL.of R4.lst,hat,qg,r,rfl,hrow4,fun o nf=>?_⟩
   have z5:upd H4 qg (.frz o (.dK r)) qg=some (.frz o (.dK r)):=aB
   have b5:But qg H (upd H4 qg (.frz o (.dK r))):=fun b u nb hb=>by rw [aJ nb]; exact s4 _ _ hb
   have e5:upd H4 qg (.frz o (.dK r)) fd0=some (.dK fs):=by rw [aJ (Ne.symm nqf)]; exact e4
   have w5:upd H4 qg (.frz o (.dK r)) wt=some (.lst ((os.drop (mm+1)).map V.int)):=by rw [aJ (Ne.symm nqw)]; exact w4
   have T5:=T4.tp (Tp.upd (a:=qg) (u:=.frz o (.dK r)) fun xs z=>by rw [hrow4] at z; cases z)
   generalize upd H4 qg (.frz o (.dK r))=H5 at z5 b5 e5 w5 T5 ⊢
   refine aCx (a:=qg) (o:=o) (kvs:=r) (fun j σ H6=>∃ (v5:Option V) (fs:List (Key×V)) (os:List Int),σ = [some (.ref rp),some (.int first),some (.ref fd0),some (.ref wt),some (.int g),v5]/\H6 qg=some (.frz o (.dK r))/\But qg H H6/\H6 fd0=some (.dK fs)/\H6 wt=some (.lst ((os.drop (mm+1)).map V.int))/\Tree ws hs n first H6 fs os/\mm+1<=os.length/\os[mm]?=some g /\
     (∀ (i:Nat) (g:Int),i < mm->os[i]?=some g->∀ w t,gH ws hs g w t->t∈os)/\∀ (i:Nat) k v t,i < j->r[i]?=some (k,v)->k=.inl t->t∈os)
    ⟨v5,fs,os,rfl,z5,b5,e5,w5,T5,hend,hgm,pr3,fun i k v t hi=>absurd hi (Db _)⟩ (fun j σ H6 _ ⟨_,_,_,_,h,_⟩=>h) ?_ ?_
   ·rintro j ⟨key,val⟩ σ H6 hj ⟨v5,fs,os,rfl,z6,b6,e6,w6,T6,hl6,hg6,pr6,dn6⟩
    -- the key is a hand,its value a work
    obtain ⟨val',hval⟩:∃ v,dU r key=some v:=by
     have:(dU r key).isSome=true:=by
      rw [<- gM,Cj]
      exact ⟨_,Ah hj,by simp⟩
     cases q:dU r key with
     | none=>rw [q] at this; cases this
     | some v=>exact ⟨v,rfl⟩
    obtain ⟨wk,t,rfl,rfl,hE⟩:=hRE.1 _ _ hval
    obtain ⟨ht0,ht1⟩:=hedge _ _ _ hE
    dsimp only [kV]
    have dn:∀ (os':List Int),t∈os'->(∀ x∈os,x∈os')->∀ (i:Nat) k v t',i < j+1->r[i]?=some (k,v)->k=.inl t'->t'∈os':=fun os' h1 h2 i k v t' hi hk he=>by
     by_cases hij:i < j
     ·exact h2 _ (dn6 i k v t' hij hk he)
     ·have:i=j:=by omega
      subst this
      rw [hj] at hk
      cases hk
      have:t=t':=by simpa using he
      rw [<- this]; exact h1
    refine ⟨_,rfl,_,rfl,fd0,_,rfl,oI.k (k:=.inl t) e6,_,rfl,?_⟩
    rw [qB T6.keys]
    by_cases htm:t∈os
    ·rw [decide_eq_true htm]
     refine cE ?_
     exact ⟨_,fs,os,rfl,z6,b6,e6,w6,T6,hl6,hg6,pr6,dn os htm fun _ h=>h⟩
    ·rw [decide_eq_false htm]
     refine eR ?_
     have hR6:H6 rp=some (.lst (qs.map V.ref)):=b6 _ _ nqr R.lst
     refine ⟨_,rfl,_,rfl,rp,_,g,_,rfl,rfl,SqL.of hR6,hat,_,rfl,qg,.int (wk:Nat),rfl,.inl ⟨r,.inl t,.inr ⟨o,z6⟩,rfl,hval.symm⟩,_,rfl,_,rfl,cZ (show 3<=1000 by decide),fun p hp=>?_⟩
     have sp:=aE.new (o:=.tup [.int (wk:Nat),.int g,.int t]) hp
     have ep:upd H6 p (.tup [.int (wk:Nat),.int g,.int t]) p=_:=aB
     have b7:But qg H (upd H6 p (.tup [.int (wk:Nat),.int g,.int t])):=b6.trans (But.of sp)
     have z7:=sp _ _ z6
     have e7:=sp _ _ e6
     have w7:=sp _ _ w6
     have T7:=T6.tp (Tp.of sp)
     generalize upd H6 p (.tup [.int (wk:Nat),.int g,.int t])=H7 at sp ep b7 z7 e7 w7 T7 ⊢
     have hv:dU fs (.inl t)=none:=by
      have:=qB T7.keys t
      rw [decide_eq_false htm] at this
      cases q:dU fs (.inl t) with
      | none=>rfl
      | some v=>rw [q] at this; cases this
     have T7l:=T7.len
     have T7f:=T7.flen
     have T8:=T7.grow ep hE hg6 htm ht0 ht1
     have hput:jD fs (.inl t) (.ref p)=fs++[(.inl t,.ref p)]:=aCv _ hv
     refine ⟨_,rfl,_,rfl,fd0,_,rfl,uY.k (k:=.inl t) e7 (by rw [sizeLine_eq]; omega),?_⟩
     rw [hput]
     have b8:But qg H (upd H7 fd0 (.dK (fs++[(.inl t,.ref p)]))):=fun b u nb hb=>by
      rw [aJ (fun z=>by rw [z,hfd0] at hb; cases hb)]
      exact b7 b u nb hb
     have z8:upd H7 fd0 (.dK (fs++[(.inl t,.ref p)])) qg=some (.frz o (.dK r)):=by rw [aJ nqf]; exact z7
     have e8:upd H7 fd0 (.dK (fs++[(.inl t,.ref p)])) fd0=_:=aB
     have w8:upd H7 fd0 (.dK (fs++[(.inl t,.ref p)])) wt=some (.lst ((os.drop (mm+1)).map V.int)):=by rw [aJ (Ne.symm nfw)]; exact w7
     have T8':=T8.tp (Tp.upd (a:=fd0) (u:=.dK (fs++[(.inl t,.ref p)])) fun xs z=>by rw [e7] at z; cases z)
     generalize upd H7 fd0 (.dK (fs++[(.inl t,.ref p)]))=H8 at b8 z8 e8 w8 T8' ⊢
     refine ⟨_,rfl,.inl ⟨rfl,_,SqL.of w8⟩,_,rfl,wt,_,.int t,rfl,rfl,w8,by rw [Ac,Cn,sizeLine_eq]; omega,?_⟩
     have hdr:(os.drop (mm+1)).map V.int++[V.int t]=((os++[t]).drop (mm+1)).map V.int:=by
      rw [List.drop_append_of_le_length hl6,Ay]; rfl
     rw [hdr]
     refine ⟨_,_,os++[t],rfl,by rw [aJ nqw]; exact z8,fun b u nb hb=>?_,by rw [aJ nfw]; exact e8,aB,T8'.tp (Tp.upd fun xs z=>by rw [w8] at z; cases z),by rw [Aq]; omega,by rw [Bk (by omega)]; exact hg6,fun i g' hi hg' w t' e'=>?_,dn _ (by simp) fun x hx=>Cf _ hx⟩
     ·rw [aJ (fun z=>by rw [z,hwt0] at hb; cases hb)]
      exact b8 b u nb hb
     ·rw [Bk (by omega)] at hg'
      exact Cf _ (pr6 i g' hi hg' w t' e')
   ·rintro σ H6 ⟨v5,fs,os,rfl,z6,b6,e6,w6,T6,hl6,hg6,pr6,dn6⟩
    refine ⟨qg,o,r,z6,nf,?_⟩
    have hole:=T6.len
    have s7:aE H (upd H6 qg (.dK r)):=fun b u hb=>by
     by_cases hbq:b=qg
     ·rw [hbq] at hb ⊢
      rw [aB,<- hrow]; exact hb
     ·rw [aJ hbq]; exact b6 b u hbq hb
    refine ⟨n.toNat - (mm+1),by omega,_,_,mm+1,fs,os,rfl,rfl,s7,by rw [aJ (Ne.symm nqf)]; exact e6,by rw [aJ (Ne.symm nqw)]; exact w6,T6.tp (Tp.upd fun xs z=>by rw [z6] at z; cases z),hl6,fun i g' hi hg' w t e=>?_⟩
    by_cases him:i < mm
    ·exact pr6 i g' him hg' w t e
    ·have:i=mm:=by omega
     subst this
     rw [hg6] at hg'
     cases hg'
     have hs:=hRE.2 w t e
     rw [<- gM,Cj] at hs
     obtain ⟨⟨k,v⟩,hk,he⟩:=hs
     obtain ⟨j,hj⟩:=Bb.mp hk
     exact dn6 j k v t (Ad.mp hj).1 hj (by simpa using he)
  ·have hlen:mm=os.length:=by omega
   have hb:(!((os.drop mm).map V.int).isEmpty)=false:=by rw [hlen,List.drop_length]; rfl
   rw [hb]
   refine cE ?_
   refine ⟨_,rfl,k fd0 H3 fs os s3 hfd0 e3 T3 fun g hg w t e=>?_⟩
   obtain ⟨i,hi⟩:=Bb.mp hg
   exact pr3 i g (by have:=(Ad.mp hi).1; omega) hi w t e
structure StepsAt (H:Hp) (ps:List Addr) (ss:List (Nat×Int×Int)):Prop where
 len:ps.length=ss.length
 at_:∀ (i:Nat) p s,ps[i]?=some p->ss[i]?=some s->H p=some (.tup [.int (s.1:Nat),.int s.2.1,.int s.2.2])
theorem StepsAt.nil {H:Hp}:StepsAt H [] []:=⟨rfl,fun i p s h=>by simp at h⟩
theorem StepsAt.cons {H:Hp} {ps:List Addr} {ss:List (Nat×Int×Int)} (h:StepsAt H ps ss) {p:Addr} {w:Nat} {g t:Int} (hp:H p=some (.tup [.int (w:Nat),.int g,.int t])):StepsAt H (p::ps) ((w,g,t)::ss):=by
 refine ⟨by rw [Bg,Bg,h.len],fun i p' s h1 h2=>?_⟩
 cases i with
 | zero =>
  have e1:p=p':=by simpa using h1
  have e2:(w,g,t)=s:=by simpa using h2
  subst e1 e2
  exact hp
 | succ i=>exact h.at_ i p' s (by simpa using h1) (by simpa using h2)
theorem StepsAt.tp {H H':Hp} {ps:List Addr} {ss:List (Nat×Int×Int)} (h:StepsAt H ps ss) (e:Tp H H'):StepsAt H' ps ss:=⟨h.len,fun i p s a b=>e _ _ (h.at_ i p s a b)⟩
def wC (K:PySem.W.Frag):Sp:=fun vs H Q _=>∃ fdp last fs os first n ws hs jl,vs = [.ref fdp,.int last]/\H fdp=some (.dK fs)/\Tree ws hs n first H fs os/\n<=7/\os[jl]?=some last /\
 ∀ p H' ps ss,aE H H'->H p=none->H' p=some (.lst (ps.map V.ref))->StepsAt H' ps ss->eK ws hs first ss last->(first::ss.map (·.2.2)).Nodup->(∀ s∈ss,s.2.2∈os)->(0 < jl->ss≠[])->Q (.ref p) H'
theorem qC:FnScope ["found", "last", "some", "step"] ["found", "last"] (aH rF):=⟨rfl,rfl,rfl,by decide +kernel,rfl,by decide +kernel,by decide +kernel⟩
theorem xZ {f:Addr} {fd:FuncData} (G:Fn K mg "way_to" rF ["found", "last"] f fd) (B:Bl mg):FnOk P w K mg base CX0 1 f fd ["found", "last"] (wC K):=by
 refine G.fn.ok qC (fun vs H Q E h=>?_) (fun cdv A outer s H vs Q E hr h=>?_)
 ·obtain ⟨fdp,last,fs,os,first,n,ws,hs,jl,rfl,_⟩:=h
  rfl
 ·obtain ⟨fdp,last,fs,os,first,n,ws,hs,jl,rfl,hfd,T,hn6,hjl,k⟩:=h
  refine ⟨_,(aD (aV (i:=2) qC.nd rfl (Or.inl rfl) (eV aC))
   (aD (aV (i:=3) qC.nd rfl (Or.inl rfl) (vA (pA hr) (pv 0) (pv 1) (fun _ _=>rfl)))
   (aD (mY PassesOwn.never (yN (aDv (pv 3)))
    (aD (dZ (oZ PySem.F.plainAttrs_list PySem.F.slot_list_append PySem.F.type_list_append hX (pv 2) (aA (pv 3) aC)))
    (aF (aV (i:=3) qC.nd rfl (Or.inl rfl) (vA (pA hr) (pv 0) (bA bK (pv 3) aG (fun _ _=>rfl)) (fun _ _=>rfl))))))
   (aF (aQ (aDM (pv 2) (aBZ yQ aG))))))),?_⟩
  have Tl:=T.len
  have hnsz:n.toNat < sizeLine:=by rw [sizeLine_eq]; omega
  refine ⟨cZ (show 0<=1000 by decide),fun sm hsm=>?_⟩
  have s1:=aE.new (o:=.lst []) hsm
  have e1:upd H sm (.lst []) sm=some (.lst []):=aB
  generalize upd H sm (.lst [])=H1 at s1 e1 ⊢
  -- what stands at a found hand
  have vals:∀ (j:Nat) (t:Int),os[j]?=some t->∃ v,dU fs (.inl t)=some v/\((j=0/\v=.non)∨∃ p w g i,0 < j/\v=.ref p/\H p=some (.tup [.int (w:Nat),.int g,.int t])/\gH ws hs g w t/\i < j/\os[i]?=some g):=fun j t ht=>by
   by_cases hj:j=0
   ·subst hj
    rw [T.head] at ht
    cases ht
    exact ⟨_,T.v0,.inl ⟨rfl,rfl⟩⟩
   ·obtain ⟨p,w,g,i,a,b,c,d,e⟩:=T.par j t (by omega) ht
    exact ⟨_,a,.inr ⟨p,w,g,i,by omega,rfl,b,c,d,e⟩⟩
  obtain ⟨v0,hv0,_⟩:=vals jl last hjl
  refine ⟨_,rfl,_,rfl,fdp,v0,rfl,.inl ⟨fs,.inl last,.inl (s1 _ _ hfd),rfl,hv0.symm⟩,?_⟩
  refine ⟨fun m σ H2=>∃ (j:Nat) (t:Int) (v:V) (rps:List Addr) (ss:List (Nat×Int×Int)),m=j/\σ = [some (.ref fdp),some (.int last),some (.ref sm),some v]/\os[j]?=some t/\dU fs (.inl t)=some v/\aE H H2/\H2 sm=some (.lst (rps.map V.ref))/\StepsAt H2 rps.reverse ss/\eK ws hs t ss last/\(t::ss.map (·.2.2)).Nodup /\
    (∀ x∈ss.map (·.2.2),∃ i:Nat,j < i/\os[i]?=some x)/\rps.length+j<=jl/\(j < jl->ss≠[]),
   ⟨jl,jl,last,v0,[],[],rfl,rfl,hjl,hv0,s1,e1,StepsAt.nil,rfl,by simp,fun x h=>by simp at h,by simp,fun h=>by omega⟩,?_⟩
  rintro j σ H2 ⟨_,t,v,rps,ss,rfl,rfl,hj,hv,s2,e2,S2,P2,N2,I2,L2',L3⟩
  have hjo:jl < os.length:=(Ad.mp hjl).1
  obtain ⟨v',hv',cs⟩:=vals j t hj
  rw [hv] at hv'
  cases hv'
  rcases cs with ⟨rfl,rfl⟩ | ⟨p,w,g,i,hj0,rfl,hp,hE,hij,hg⟩
  ·refine ⟨_,rfl,_,rfl,?_⟩
   refine cE ?_
   rw [T.head] at hj
   cases hj
   refine ⟨_,rfl,_,rfl,rfl,sm,_,rfl,SqL.of e2,fun p hp=>?_⟩
   have s3:=aE.new (o:=.lst (rps.map V.ref).reverse) hp
   refine k p _ rps.reverse ss (s2.trans s3) (s2.free hp) (by rw [aB,List.map_reverse]) (S2.tp (Tp.of s3)) P2 N2 (fun x hx=>?_) L3
   obtain ⟨i,_,hi⟩:=I2 _ (Bd.mpr ⟨x,hx,rfl⟩)
   exact Ah hi
  ·refine ⟨_,rfl,_,rfl,?_⟩
   refine eR ?_
   obtain ⟨vg,hvg,_⟩:=vals i g hg
   refine ⟨fun σ' H'=>∃ m',m' < j/\∃ (j:Nat) (t:Int) (v:V) (rps:List Addr) (ss:List (Nat×Int×Int)),m'=j/\σ' = [some (.ref fdp),some (.int last),some (.ref sm),some v]/\os[j]?=some t/\dU fs (.inl t)=some v/\aE H H'/\H' sm=some (.lst (rps.map V.ref))/\StepsAt H' rps.reverse ss/\eK ws hs t ss last/\(t::ss.map (·.2.2)).Nodup /\
    (∀ x∈ss.map (·.2.2),∃ i:Nat,j < i/\os[i]?=some x)/\rps.length+j<=jl/\(j < jl->ss≠[]),fun σ' H' z=>z,?_⟩
   have hsz:(rps.map V.ref).length < sizeLine:=by
    rw [Ac]
    exact Ec (At (At (Cy _ _) L2') (At (Ex hjo) Tl)) hnsz
   refine ⟨_,rfl,.inl ⟨rfl,_,SqL.of e2⟩,_,rfl,sm,_,.ref p,rfl,rfl,e2,hsz,?_⟩
   have s3:aE H (upd H2 sm (.lst (rps.map V.ref++[.ref p]))):=s2.wr hsm
   have e3:upd H2 sm (.lst (rps.map V.ref++[.ref p])) sm=_:=aB
   have S3:=S2.tp (Tp.upd (a:=sm) (u:=.lst (rps.map V.ref++[.ref p])) fun xs z=>by rw [e2] at z; cases z)
   generalize upd H2 sm (.lst (rps.map V.ref++[.ref p]))=H3 at s3 e3 S3 ⊢
   have hp3:=s3 _ _ hp
   refine ⟨_,rfl,_,rfl,p,_,1,.int g,rfl,rfl,SqT.of hp3,rfl,fdp,vg,rfl,.inl ⟨fs,.inl g,.inl (s3 _ _ hfd),rfl,hvg.symm⟩,?_⟩
   refine ⟨i,hij,i,g,vg,rps++[p],(w,g,t)::ss,rfl,rfl,hg,hvg,s3,by rw [Ay]; exact e3,?_,⟨rfl,hE,P2⟩,?_,?_,?_,fun _=>by simp⟩
   ·rw [Gn]
    exact S3.cons hp3
   ·show (g::t::ss.map (·.2.2)).Nodup
    rw [Cu]
    refine ⟨fun hm=>?_,N2⟩
    have inj:∀ i',i < i'->os[i']?=some g->False:=fun i' h1 h2=>by
     have:=(List.getElem?_inj (Ad.mp hg).1 T.nd).mp (hg.trans h2.symm)
     omega
    rcases Am.mp hm with e | hm
    ·exact inj j hij (by rw [e]; exact hj)
    ·obtain ⟨i',h1,h2⟩:=I2 g hm
     exact inj i' (by omega) h2
   ·intro x hx
    rcases Am.mp (show x∈t::ss.map (·.2.2) from hx) with rfl | hx
    ·exact ⟨j,hij,hj⟩
    ·obtain ⟨i',h1,h2⟩:=I2 x hx
     exact ⟨i',by omega,h2⟩
   ·rw [Aq]
    show rps.length+1+i<=jl
    omega
end
def yA:Str:=("levels_or_way" : Str) ++ ".<locals>." ++ "<lambda>"
theorem rX {n:Int} {hs:List Int} {h:Int} (h0:0<=h) (h1:h < n):atI ((cC n hs).map V.int) h=some (.int ((hs.count h:Nat):Int)):=by
 have hlt:h.toNat < n.toNat:=by omega
 have hcast:((h.toNat:Nat):Int)=h:=by omega
 have h1:((cC n hs).map V.int)[h.toNat]?=some (.int ((hs.count h:Nat):Int)):=by rw [Af,rQ hlt,hcast]; rfl
 have h2:=dJ h1
 rwa [hcast] at h2
def aFV (n:Int) (ws:List (List Int)) (hs:List Int) (H H':Hp) (p:Addr):Prop :=
 (∃ q lv,H' p=some (.tup [.str "levels",.ref q])/\H' q=some (.tup (lv.map V.int))/\gT n ws hs lv) ∨
 ∃ q ps ss,H' p=some (.tup [.str "way",.ref q])/\H q=none/\H' q=some (.lst (ps.map V.ref))/\StepsAt H' ps ss/\pJ n ws hs ss
section
variable {P:Program} {w:World} {K:PySem.W.Frag} {mg:Str->Option Value} {base:Heap}
variable {fW fH fK fB fNB fD fND fL:Addr} {dW dH dK dB dNB dD dND dL:FuncData}
def aAR (K:PySem.W.Frag) (Pt:Addr):Sp:=fun vs H Q _=>∃ x y n ws hs,vs = [x,y]/\fY K H x y n ws hs/\H Pt=some (.tab yA)/\∀ p H',aE H H'->aFV n ws hs H H' p->Q (.ref p) H'
theorem rY:FnScope ["book", "deal", "many", "rows", "levels", "hand", "found", "last"] ["book", "deal"] (aH aCQ):=⟨rfl,rfl,rfl,by decide +kernel,rfl,by decide +kernel,by decide +kernel⟩
theorem aE8 {f fHd fR fW' c Pt:Addr} {fd dHd dR dW':FuncData} (G:Fn K mg "levels_or_way" aCQ ["book", "deal"] f fd) (hc:fd.code=.ref c) (Z:Lm K mg base c Pt) (B:Bl mg) (R:Pr K mg fW fH fK fB fNB fD fND fL dW dH dK dB dNB dD dND dL)
  (GH:Fn K mg "handing" gO ["book", "deal"] fHd dHd) (GR:Fn K mg "reached" kP ["rows", "first"] fR dR) (GW:Fn K mg "way_to" rF ["found", "last"] fW' dW'):FnOk P w K mg base CX0 8 f fd ["book", "deal"] (aAR K Pt):=by
 have OL:FnOk P w K mg base CX0 7 fL dL ["book", "deal"] (vW K):=xV B R
 have OH:FnOk P w K mg base CX0 1 fHd dHd ["book", "deal"] (uC K):=aAb GH B
 have OR:FnOk P w K mg base CX0 1 fR dR ["rows", "first"] (oQ K):=rW GR B
 have OW:FnOk P w K mg base CX0 1 fW' dW' ["found", "last"] (wC K):=xZ GW B
 refine G.fn.okC hc rY (fun vs H Q E h=>?_) (fun A outer s H vs Q E hr h=>?_)
 ·obtain ⟨x,y,n,ws,hs,rfl,_⟩:=h
  rfl
 ·obtain ⟨x,y,n,ws,hs,rfl,g,hT,k⟩:=h
  have r1:Room 1 _:=hr.mono (by decide)
  refine ⟨_,(aD (aV (i:=2) rY.nd rfl (Or.inr rfl) (aW R.L OL hr rfl (aA (pv 0) (aA (pv 1) aC))))
   (aD (aV (i:=3) rY.nd rfl (Or.inl rfl) (aW GH OH r1 rfl (aA (pv 0) (aA (pv 1) aC))))
   (aD (aV (i:=4) rY.nd rfl (Or.inl rfl) (eV aC))
   (aD (eU PassesOwn.never rfl (eE rfl B.range (aA (bA bK (pv 0) aG (fun _ _=>rfl)) aC)) (aI (i:=5) rY.nd rfl (Or.inl rfl))
    (aD (aV (i:=6) rY.nd rfl (Or.inl rfl) (aW GR OR r1 rfl (aA (pv 3) (aA (pv 5) aC))))
    (aD (aV (i:=7) rY.nd rfl (Or.inl rfl) (aBt 2 rfl r1 rfl B.min Z rfl (q:=yA) rfl (pv 6) rfl rfl))
    (aD (bJ (aL qI (bC mI (bA bK (pv 2) (pv 5) (fun _ _=>rfl)) (bA bK (pv 2) (pv 7) (fun _ _=>rfl))) aG (aN _))
     (aF (aQ (bX (aA yM (aA (aW GW OW r1 rfl (aA (pv 6) (aA (pv 7) aC))) aC)))))
     aT)
    (aF (dZ (oZ PySem.F.plainAttrs_list PySem.F.slot_list_append PySem.F.type_list_append hX (pv 4) (aA (bA bK (pv 2) (pv 7) (fun _ _=>rfl)) aC))))))))
   (aF (aQ (bX (aA yM (aA (bH bM rfl B.tuple bT (aA (pv 4) aC)) aC))))))))),?_⟩
  obtain ⟨hl12,hn1,hn6⟩:=g.len
  obtain ⟨a,b,ys,ex,ha,hb2,hys⟩:=cR g.1
  obtain ⟨_,_,hw12,hws⟩:=bG g.2.1
  have hedge:∀ g w t,gH ws hs g w t->0<=t/\t < n:=fun g w t e=>by
   obtain ⟨_,l,h1,h2,_⟩:=e
   exact (bL (hws l (Ah h1))).2.1 t h2
  refine ⟨_,rfl,_,rfl,x,y,n,ws,hs,rfl,g,fun mp H1 s1 hmp=>?_⟩
  have g1:=g.same s1
  refine ⟨_,rfl,_,rfl,x,y,n,ws,hs,rfl,g1,fun rp H2 qs rs s2 hrp hqs R2 hlr ER=>?_⟩
  refine ⟨cZ (show 0<=1000 by decide),fun lp hlp=>?_⟩
  have s12:=s1.trans s2
  have s3:=s12.trans (aE.new (o:=.lst []) hlp)
  have hlp0:H lp=none:=s12.free hlp
  have R3:=R2.same (aE.new (o:=.lst []) hlp)
  have m3:=(s2.trans (aE.new (o:=.lst []) hlp)) _ _ hmp
  have e3:upd H2 lp (.lst []) lp=some (.lst []):=aB
  have hrp0:H rp=none:=s1.free hrp
  have nrl:rp≠lp:=fun z=>by have:=R2.lst; rw [z,hlp] at this; cases this
  have nql:∀ q∈qs,q≠lp:=fun q hq z=>by
   obtain ⟨i,hi⟩:=Bb.mp hq
   have hil:i < rs.length:=by rw [<- R2.len]; exact (Ad.mp hi).1
   have:=R2.row i q _ hi (Ae hil)
   rw [z,hlp] at this; cases this
  have nml:mp≠lp:=fun z=>by have:=s2 _ _ hmp; rw [z,hlp] at this; cases this
  generalize upd H2 lp (.lst [])=H3 at s3 R3 m3 e3 ⊢
  subst ex
  refine ⟨_,rfl,a,_,0,.int n,rfl,rfl,s3.seqT ha,rfl,n,rfl,by omega,by omega,oB (lo:=0) (n:=n.toNat) (fun i σ H4=>∃ (v5 v6 v7:Option V) (lv:List Int),σ = [some (.ref a),some y,some (.ref mp),some (.ref rp),some (.ref lp),v5,v6,v7]/\aE H H4/\Rows H4 rp qs rs/\H4 mp=some (.tup ((cC n hs).map V.int))/\H4 lp=some (.lst (lv.map V.int))/\lv.length=i /\
    ∀ (h:Nat) (v:Int),lv[h]?=some v->nR ws hs n.toNat h v/\((hs.count (h:Int):Nat):Int) - v < 2)
   ⟨none,none,none,[],rfl,s3,R3,m3,e3,rfl,fun h v e=>by simp at e⟩ ?_ ?_⟩
  ·rintro i σ H4 hi ⟨v5,v6,v7,lv,rfl,s4,R4,m4,e4,hlv,L4⟩
   have hi0:(0:Int)<=0+(i:Int):=by omega
   have hi1:0+(i:Int) < n:=by omega
   refine ⟨_,rfl,_,rfl,rp,0+(i:Int),qs,rs,n,ws,hs,rfl,R4,hlr,ER,hedge,by omega,hi0,hi1,fun fdp H5 fs os s5 hfd e5 T5 C5=>?_⟩
   have s45:=s4.trans s5
   have R5:=R4.same s5
   have m5:=s5 _ _ m4
   have l5:=s5 _ _ e4
   have T5l:=T5.len
   have hpos:0 < os.length:=(Ad.mp T5.head).1
   refine ⟨_,rfl,os,fun o=>((hs.count o:Nat):Int),.ref mp,⟨fdp,rfl,.inr (.inr ⟨fs,e5,T5.keys⟩)⟩,hpos,s45 _ _ hT,rfl,fun o ho=>?_,fun j m H6 s6 hj hmin _=>?_⟩
   ·obtain ⟨o0,o1⟩:=T5.rng o ho
    refine ⟨o0,by omega,mp,_,rfl,.inl (SqT.of m5),?_⟩
    rw [Af,rQ (by omega),show ((o.toNat:Nat):Int)=o by omega]
    rfl
   have hjl:j < os.length:=(Ad.mp hj).1
   obtain ⟨m0,m1⟩:=T5.rng m (Ah hj)
   have s46:=s45.trans s6
   have R6:=R5.same s6
   have m6:=s6 _ _ m5
   have l6:=s6 _ _ l5
   have e6:=s6 _ _ e5
   have T6:=T5.tp (Tp.of s6)
   have hRL:RL ws hs n.toNat (0+(i:Int)) m:=(T6.rl j m hj).mono (by omega)
   have hmin2:nR ws hs n.toNat (0+(i:Int)) ((hs.count m:Nat):Int):=by
    refine ⟨⟨m,hRL,rfl⟩,fun k x hx=>?_⟩
    exact hmin x (hx.closed (S:=fun o=>o∈os) (fun g w t hg e=>C5 g hg w t e) (Ah T5.head))
   refine ⟨_,rfl,_,rfl,mp,_,_,_,rfl,rfl,SqT.of m6,rX hi0 hi1,_,rfl,_,rfl,mp,_,_,_,rfl,rfl,SqT.of m6,rX m0 m1,_,_,rfl,rfl,_,_,rfl,rfl,_,rfl,?_⟩
   refine cF (fun c=>?_) (fun c=>?_)
   ·have hge:((hs.count (0+(i:Int)):Nat):Int) - ((hs.count m:Nat):Int)≥2:=of_decide_eq_true c
    refine ⟨_,rfl,_,rfl,fdp,m,fs,os,0+(i:Int),n,ws,hs,j,rfl,e6,T6,by omega,hj,fun p H7 ps ss s7 hp hps S7 P7 N7 _ ne7=>⟨sz2 _ _,fun q hq=>?_⟩⟩
    have s8:=aE.new (o:=.tup [.str "way",.ref p]) hq
    refine k q _ ((s46.trans s7).trans s8) (.inr ⟨p,ps,ss,aB,s46.free hp,s8 _ _ hps,S7.tp (Tp.of s8),0+(i:Int),m,ne7 ?_,P7,N7,hi0,hi1,hRL,hge⟩)
    rcases Fa j with z | z
    ·rw [z,T5.head] at hj
     cases hj
     omega
    ·exact z
   ·have hlt:¬ ((hs.count (0+(i:Int)):Nat):Int) - ((hs.count m:Nat):Int)≥2:=fun z=>c (decide_eq_true z)
    refine ⟨_,rfl,.inl ⟨rfl,_,SqL.of l6⟩,_,rfl,_,rfl,mp,_,_,_,rfl,rfl,SqT.of m6,rX m0 m1,lp,_,_,rfl,rfl,l6,by rw [Ac,sizeLine_eq]; omega,?_⟩
    refine ⟨_,_,_,lv++[((hs.count m:Nat):Int)],rfl,s46.wr hlp0,?_,by rw [aJ nml]; exact m6,by rw [aB,Ay]; rfl,by rw [Aq,hlv]; rfl,fun h v e=>?_⟩
    ·refine ⟨by rw [aJ nrl]; exact R6.lst,R6.len,R6.nd,fun g q r h1 h2=>?_⟩
     rw [aJ (nql q (Ah h1))]
     exact R6.row g q r h1 h2
    ·by_cases hh:h < lv.length
     ·rw [Bk hh] at e
      exact L4 h v e
     ·have eh:h=i:=by
       have:=(Ad.mp e).1
       rw [Aq] at this
       simp at this
       omega
      subst eh
      rw [Cc (by omega),hlv,Nat.sub_self] at e
      have ev:((hs.count m:Nat):Int)=v:=by simpa using e
      rw [<- ev]
      rw [Fw] at hmin2 hlt
      exact ⟨hmin2,by omega⟩
  ·rintro σ H4 ⟨v5,v6,v7,lv,rfl,s4,R4,m4,e4,hlv,L4⟩
   refine ⟨_,rfl,lp,_,rfl,.inl ⟨SqL.of e4,fun q hq=>⟨sz2 _ _,fun p hp=>?_⟩⟩⟩
   have s5:=(aE.new (o:=.tup (lv.map V.int)) hq).trans (aE.new (o:=.tup [.str "levels",.ref q]) hp)
   exact k p _ (s4.trans s5) (.inl ⟨q,lv,aB,(aE.new hp) _ _ aB,hlv,L4⟩)
end
theorem yB:∀ (ts:List Str) (k:Nat) (acc:Str),(textFrom k acc ts).length<=acc.length+piled ts
 | [],_,acc=>by show acc.length<=acc.length+0; exact Ai _
 | t::r,k,acc=>by
  have ih:=yB r (k+1) (acc++(if k > 0 then ", " else "" : String)++t)
  have e:(acc++(if k > 0 then ", " else "" : String)++t).length<=acc.length+2+t.length:=by
   rw [Str.length_append,Str.length_append]
   have:(((if k > 0 then ", " else "" : String):Str)).length<=2:=by split <;> decide
   omega
  show (textFrom (k+1) _ r).length<=_
  rw [piled_cons]
  omega
theorem aC4 (ts:List Str):(listText ts).length<=2+piled ts:=by
 unfold listText
 rw [Str.length_append]
 have h:=yB ts 0 "["
 have e1:((("[" : String):Str)).length=1:=rfl
 have e2:((("]" : String):Str)).length=1:=rfl
 omega
theorem aBJ (ts:List Str):(tupleText ts).length<=3+piled ts:=by
 unfold tupleText
 rw [Str.length_append,Str.length_append]
 have e1:((("(" : String):Str)).length=1:=rfl
 have e3:(((if ts.length==1 then ",)" else ")" : String):Str)).length<=2:=by split <;> decide
 have e4:(Str.join ", " ts).length<=piled ts:=by
  cases ts with
  | nil=>decide
  | cons x r=>have:=join_length_add (x::r) (by simp); omega
 omega
theorem nT {α:Type} (f:α->PyData):∀ l:List α,PyData.shownAll (l.map f)=l.map fun x=>(f x).shown
 | []=>by rw [Ey,PyData.shownAll]; rfl
 | x::r=>by rw [Ba,PyData.shownAll,nT f r]; rfl
theorem uD {α:Type} (f:α->Str) (k:Nat):∀ l:List α,(∀ x∈l,(f x).length<=k)->piled (l.map f)<=(k+2)*l.length
 | [],_=>by rw [Ey,piled_nil]; exact Bo _
 | x::r,h=>by
  rw [Ba,piled_cons,Bg,Nat.mul_succ]
  have h1:=h x (Ao ..)
  have h2:=uD f k r (fun y hy=>h y (Av _ hy))
  omega
theorem yC (l:List Int):(bF l).canLay0=true:=hU l
theorem gU (n:Int) (ws:List (List Int)):(bD n ws).canLay0=true:=by
 have h:(PyData.tuple (ws.map bF)).canLay0=true:=by unfold PyData.canLay0; exact iJ _ yC ws
 unfold bD
 rw [PyData.canLay0,PyData.canLayAll0,PyData.canLayAll0,mR,h,PyData.canLayAll0]
 rfl
theorem aAc (l:List Int):(bF l).depth<=1:=kW l
theorem rZ (n:Int) (ws:List (List Int)):(bD n ws).depth<=3:=by
 have h:(PyData.tuple (ws.map bF)).depth<=2:=by unfold PyData.depth; exact Cs (jF _ aAc ws)
 have h2:=oO n
 unfold bD
 rw [PyData.depth,PyData.depthAll,PyData.depthAll,PyData.depthAll]
 omega
mutual
theorem jI:∀ d:PyData,d.canLay0=true->cA d=true
 | .none,_=>by unfold cA; rfl
 | .bool _,_=>by unfold cA; rfl
 | .int _,_=>by unfold cA; rfl
 | .str _,_=>by unfold cA; rfl
 | .list ds,h=>by unfold cA; rw [PyData.canLay0] at h; exact mT ds h
 | .tuple ds,h=>by unfold cA; rw [PyData.canLay0] at h; exact mT ds h
 | .dict _,h=>by rw [PyData.canLay0] at h; cases h
theorem mT:∀ ds:List PyData,PyData.canLayAll0 ds=true->eS ds=true
 | [],_=>by unfold eS; rfl
 | d::ds,h=>by
  rw [PyData.canLayAll0,Az] at h
  unfold eS
  rw [jI d h.1,mT ds h.2]
  rfl
end
def d2 (n:Int) (ws:List (List Int)) (hs:List Int):PyData:=.list [bD n ws,gQ hs]
section
variable {ws:List (List Int)} {hs:List Int}
theorem mU:∀ {h x:Int} {ss:List (Nat×Int×Int)},eK ws hs h ss x->ss.map (·.2.1)++[x]=h::ss.map (·.2.2)
 | _,_,[],e=>by cases e; rfl
 | _,_,s::r,⟨e1,_,e3⟩=>by rw [Ba,Fp,mU e3,e1]; rfl
theorem lN:∀ {h x:Int} {ss:List (Nat×Int×Int)},eK ws hs h ss x->∀ (i:Nat) s,ss[i]?=some s->gH ws hs s.2.1 s.1 s.2.2/\∀ s',0 < i->ss[i - 1]?=some s'->s'.2.2=s.2.1
 | _,_,[],_,i,s,hs=>by simp at hs
 | h,_,a::r,⟨e1,e2,e3⟩,0,s,hs'=>by
  have:a=s:=by simpa using hs'
  subst this
  exact ⟨by rw [e1]; exact e2,fun s' h0=>by omega⟩
 | h,_,a::r,⟨e1,e2,e3⟩,i+1,s,hs'=>by
  have hr:r[i]?=some s:=by simpa using hs'
  obtain ⟨p1,p2⟩:=lN e3 i s hr
  refine ⟨p1,fun s' _ hs2=>?_⟩
  cases i with
  | zero =>
   have e:a=s':=by simpa using hs2
   subst e
   cases r with
   | nil=>simp at hr
   | cons b r' =>
    have:b=s:=by simpa using hr
    subst this
    exact e3.1.symm
  | succ i=>exact p2 s' (by omega) (by simpa using hs2)
theorem uE:∀ {h x:Int} {ss:List (Nat×Int×Int)},eK ws hs h ss x->∀ s,ss[ss.length - 1]?=some s->s.2.2=x
 | _,_,[],_,s,e=>by simp at e
 | _,_,[a],⟨_,_,e3⟩,s,e=>by
  have:a=s:=by simpa using e
  subst this
  exact e3
 | _,_,a::b::r,⟨_,_,e3⟩,s,e=>uE e3 s (by simpa using e)
end
theorem mC:∀ L:List (List Int),eS (L.map bF)=true
 | []=>by unfold List.map eS; rfl
 | l::r=>by
  rw [Ba]
  unfold eS
  rw [mC r,Fm]
  exact jR l
def jX (s:Nat×Int×Int):List Int:=[(s.1:Int),s.2.1,s.2.2]
theorem StepsAt.den {K:PySem.W.Frag} {H:Hp}:∀ {ps:List Addr} {ss:List (Nat×Int×Int)},StepsAt H ps ss->aZ K H ((ss.map jX).map bF) (ps.map V.ref)
 | [],[],_=>aY.mpr rfl
 | [],_::_,h=>by have:=h.len; simp at this
 | _::_,[],h=>by have:=h.len; simp at this
 | p::ps,s::ss,h=>by
  have h0:=h.at_ 0 p s rfl rfl
  have hr:StepsAt H ps ss:=⟨by have:=h.len; simpa using this,fun i p' s' a b=>h.at_ (i+1) p' s' (by simpa using a) (by simpa using b)⟩
  exact aS.mpr ⟨_,_,rfl,aX.mpr ⟨p,rfl,SqT.of h0⟩,StepsAt.den hr⟩
end Ab
namespace L2
open PySem
end L2
namespace Ab
open PySem L2
section
variable {P:Program} {w:World} {K:PySem.W.Frag} {mg:Str->Option Value} {base:Heap}
end
theorem yD {ws:List (List Int)} {hs:List Int} {k g t:Int} (h:gD ws hs [k,g,t]=true):0<=k/\k < hs.length/\hs[k.toNat]?=some g/\t≠g/\t∈ws.getD k.toNat []:=by
 have h':(decide (0<=k) && (decide (k < hs.length) && (hs[k.toNat]?==some g && (!decide (t=g) && decide (t∈ws.getD k.toNat [])))))=true:=h
 simp only [Az,decide_eq_true_eq,beq_iff_eq,Bool.not_eq_true',decide_eq_false_iff_not] at h'
 exact ⟨h'.1,h'.2.1,h'.2.2.1,h'.2.2.2.1,h'.2.2.2.2⟩
def mD (hs:List Int) (L:List (List Int)):List Int:=L.foldl (fun h st=>h.set (st.getD 0 0).toNat (rR st)) hs
theorem aBK (L:List (List Int)):∀ hs:List Int,(mD hs L).length=hs.length:=by
 induction L with
 | nil=>intro hs; rfl
 | cons s r ih=>intro hs; show (mD (hs.set _ _) r).length=_; rw [ih,Cp]
theorem aAd (hs:List Int) (L:List (List Int)) (st:List Int):mD hs (L++[st])=(mD hs L).set (st.getD 0 0).toNat (rR st):=by unfold mD; rw [List.foldl_append]; rfl
section
variable {P:Program} {w:World} {K:PySem.W.Frag} {mg:Str->Option Value} {base:Heap}
variable {fW fH fK fB fNB fD fND fL:Addr} {dW dH dK dB dNB dD dND dL:FuncData}
def WIn (K:PySem.W.Frag) (H:Hp) (x y:V) (p:Addr) (xs:List V) (n:Int) (ws:List (List Int)) (hs:List Int) (L:List (List Int)):Prop:=fY K H x y n ws hs/\SqL K H p xs/\aZ K H (L.map bF) xs/\L.length<=30/\∀ l∈L,l.length<=1000
theorem WIn.same {H H':Hp} {x y:V} {p:Addr} {xs:List V} {n:Int} {ws:List (List Int)} {hs:List Int} {L:List (List Int)} (h:WIn K H x y p xs n ws hs L) (s:aE H H'):WIn K H' x y p xs n ws hs L:=⟨h.1.same s,s.seqL h.2.1,s.denAll _ _ h.2.2.1,h.2.2.2⟩
theorem WIn.nth {H:Hp} {x y:V} {p:Addr} {xs:List V} {n:Int} {ws:List (List Int)} {hs:List Int} {L:List (List Int)} (h:WIn K H x y p xs n ws hs L) (hw:rS ws hs L=true) {i:Nat} {u:V} (hu:xs[i]?=some u) :
  ∃ (c:Addr) (kk gg tt:Int),u=.ref c/\L[i]?=some [kk,gg,tt]/\SqT K H c [.int kk,.int gg,.int tt]/\gD ws hs [kk,gg,tt]=true:=by
 have hx:=aP h.2.2.1
 rw [Ac] at hx
 have hlt:i < L.length:=by have:=(Ad.mp hu).1; omega
 have el:L[i]?=some L[i]:=Ae hlt
 obtain ⟨c1,e1,e2⟩:=jT h.2.2.1 el
 rw [hu] at e1
 have hall:L.all (gD ws hs)=true:=by unfold rS at hw; simp only [Az] at hw; exact hw.2.1
 have hst:=Bf.mp hall _ (Ct hlt)
 obtain ⟨kk,gg,tt,e3⟩:=uB hst
 rw [e3] at e2 el hst
 exact ⟨c1,kk,gg,tt,Option.some.inj e1,el,e2,hst⟩
def aAS (K:PySem.W.Frag):Sp:=fun vs H Q _=>∃ x y p xs n ws hs L,vs = [x,y,.ref p]/\WIn K H x y p xs n ws hs L/\rS ws hs L=true/\∀ H',aE H H'->Q .non H'
theorem aD8:FnScope ["book", "deal", "some"] ["book", "deal", "some"] (aH vQ):=⟨rfl,rfl,rfl,by decide +kernel,rfl,by decide +kernel,by decide +kernel⟩
theorem aC5 {f fWy fS:Addr} {fd dWy dS:FuncData} (G:Fn K mg "need_way" vQ ["book", "deal", "some"] f fd) (B:Bl mg) (R:Pr K mg fW fH fK fB fNB fD fND fL dW dH dK dB dNB dD dND dL) (GW:Fn K mg "is_way" zS ["book", "deal", "some"] fWy dWy) (GS:Fn K mg "is_step" tX ["book", "deal", "step"] fS dS):FnOk P w K mg base CX0 8 f fd ["book", "deal", "some"] (aAS K):=by
 have OWy:FnOk P w K mg base CX0 7 fWy dWy ["book", "deal", "some"] (aEv K):=aE7 GW B R GS
 refine G.fn.ok aD8 (fun vs H Q E h=>?_) (fun cdv A outer s H vs Q E hr h=>?_)
 ·obtain ⟨x,y,p,xs,n,ws,hs,L,rfl,_⟩:=h
  rfl
 ·obtain ⟨x,y,p,xs,n,ws,hs,L,rfl,hi,hw,k⟩:=h
  refine ⟨_,aF (bJ (bZ (bW (aW GW OWy hr rfl (aA (pv 0) (aA (pv 1) (aA (pv 2) aC)))))) lD aT),?_⟩
  refine ⟨_,rfl,_,rfl,_,rfl,x,y,p,xs,n,ws,hs,L,rfl,hi.1,hi.2.1,hi.2.2.1,hi.2.2.2.1,hi.2.2.2.2,fun H' s1=>⟨_,rfl,?_⟩⟩
  rw [hw]
  refine cE ?_
  exact k H' s1
def aC6 (K:PySem.W.Frag):Sp:=fun vs H Q _=>∃ x y p xs n ws hs L,vs = [x,y,.ref p]/\WIn K H x y p xs n ws hs L/\rS ws hs L=true/\∀ q H',aE H H'->H q=none->H' q=some (.tup ((mD hs L).map V.int))->Q (.ref q) H'
theorem sA:FnScope ["book", "deal", "some", "behind", "work", "giver", "taker"] ["book", "deal", "some"] (aH aAJ):=⟨rfl,rfl,rfl,by decide +kernel,rfl,by decide +kernel,by decide +kernel⟩
theorem aD9 {f fN:Addr} {fd dN:FuncData} (G:Fn K mg "gone" aAJ ["book", "deal", "some"] f fd) (B:Bl mg) (GNW:Fn K mg "need_way" vQ ["book", "deal", "some"] fN dN) (ONW:FnOk P w K mg base CX0 8 fN dN ["book", "deal", "some"] (aAS K)):FnOk P w K mg base CX0 9 f fd ["book", "deal", "some"] (aC6 K):=by
 refine G.fn.ok sA (fun vs H Q E h=>?_) (fun cdv A outer s H vs Q E hr h=>?_)
 ·obtain ⟨x,y,p,xs,n,ws,hs,L,rfl,_⟩:=h
  rfl
 ·obtain ⟨x,y,p,xs,n,ws,hs,L,rfl,hi,hw,k⟩:=h
  have r8:Room 8 _:=hr
  refine ⟨_,(aD (dZ (aW GNW ONW r8 rfl (aA (pv 0) (aA (pv 1) (aA (pv 2) aC)))))
  (aD (aV (i:=3) sA.nd rfl (Or.inl rfl) (bH jO rfl B.list vO (aA (pv 1) aC)))
  (aD (eU PassesOwn.never rfl (gJ (pv 2)) (eG rfl (aO (aI (i:=4) sA.nd rfl (Or.inl rfl)) (aO (aI (i:=5) sA.nd rfl (Or.inl rfl)) (aO (aI (i:=6) sA.nd rfl (Or.inl rfl)) cH))))
   (aF (fZ (pv 6) (oA (pv 3) (pv 4) jA))))
  (aF (aQ (bH bM rfl B.tuple bT (aA (pv 3) aC))))))),?_⟩
  refine ⟨_,rfl,_,rfl,_,rfl,x,y,p,xs,n,ws,hs,L,rfl,hi,hw,fun H1 s1=>?_⟩
  have hi1:=hi.same s1
  obtain ⟨c0,rfl,hc0⟩:=aX.mp hi1.1.2.2.1
  have hxl:=aP hi.2.2.1
  rw [Ac] at hxl
  refine ⟨_,rfl,c0,_,rfl,.inr hc0,fun bh hbh=>?_⟩
  have s2:=aE.new (o:=.lst (hs.map V.int)) hbh
  have e2:upd H1 bh (.lst (hs.map V.int)) bh=some (.lst (hs.map V.int)):=aB
  generalize upd H1 bh (.lst (hs.map V.int))=H2 at s2 e2 ⊢
  refine ⟨_,rfl,p,rfl,⟨_,(hi1.same s2).2.1⟩,kD (K:=K) (a:=p) (xs:=xs) (fun i σ H3=>∃ v4 v5 v6,σ = [some x,some (.ref c0),some (.ref p),some (.ref bh),v4,v5,v6]/\aE H1 H3/\H3 bh=some (.lst ((mD hs (L.take i)).map V.int))) ⟨_,_,_,rfl,s2,e2⟩ (fun i σ H3 _ ⟨_,_,_,_,s3,_⟩=>(hi1.same s3).2.1) ?_ ?_⟩
  ·rintro i u σ H3 hu ⟨v4,v5,v6,rfl,s3,e3⟩
   obtain ⟨c,kk,gg,tt,rfl,el,hc,hst⟩:=(hi1.same s3).nth hw hu
   obtain ⟨k0,k1,_⟩:=yD hst
   refine ⟨c,_,rfl,hc,rfl,_,_,rfl,_,_,rfl,_,_,rfl,rfl,?_⟩
   refine ⟨_,rfl,_,rfl,_,rfl,bh,_,kk,kk.toNat,rfl,rfl,e3,aAa k0 (by rw [Ac,aBK]; exact k1),?_⟩
   refine ⟨_,_,_,rfl,s3.wr hbh,?_⟩
   rw [aB,Bm,el]
   show some (HO.lst _)=some (HO.lst ((mD hs (L.take i++[[kk,gg,tt]])).map V.int))
   rw [aAd,Gd]
   rfl
  ·rintro σ H3 ⟨v4,v5,v6,rfl,s3,e3⟩
   rw [hxl,Bi (Ai _)] at e3
   refine ⟨_,rfl,bh,_,rfl,.inl ⟨SqL.of e3,fun q hq=>k q _ ((s1.trans s3).trans (aE.new hq)) ((s1.trans s3).free hq) aB⟩⟩
end
end Ab
namespace Ab
section
variable {ws:List (List Int)}
def dQ (hs:List Int) (ss:List (Nat×Int×Int)):List Int:=ss.foldl (fun h s=>h.set s.1 s.2.2) hs
theorem jJ:∀ (ss:List (Nat×Int×Int)) (hs:List Int),(dQ hs ss).length=hs.length
 | [],_=>rfl
 | s::r,hs=>by show (dQ (hs.set s.1 s.2.2) r).length=_; rw [jJ r,Cp]
theorem sB:∀ (hs:List Int) (w:Nat) (g t c:Int),hs[w]?=some g->(((hs.set w t).count c:Nat):Int)=((hs.count c:Nat):Int) - (if c=g then 1 else 0)+(if c=t then 1 else 0)
 | [],w,g,t,c,h=>by simp at h
 | a::r,0,g,t,c,h=>by
  have e:a=g:=by simpa using h
  subst e
  rw [List.set_cons_zero,Ca,Ca]
  by_cases h1:c=a <;> by_cases h2:c=t
  ·subst h1; subst h2; simp
  ·subst h1; have:(t==c)=false:=by simpa using fun z=>h2 z.symm
   simp [h2,this]
  ·subst h2; have:(a==c)=false:=by simpa using fun z=>h1 z.symm
   simp [h1,this]
  ·have e1:(a==c)=false:=by simpa using fun z=>h1 z.symm
   have e2:(t==c)=false:=by simpa using fun z=>h2 z.symm
   simp [h1,h2,e1,e2]
 | a::r,w+1,g,t,c,h=>by
  have ih:=sB r w g t c (by simpa using h)
  rw [List.set_cons_succ,Ca,Ca]
  omega
theorem yE {hs:List Int} {w:Nat} {g u:Int} (hg:hs[w]?=some g):∀ {h x:Int} {r:List (Nat×Int×Int)},eK ws hs h r x->(∀ s∈r,s.2.1≠g)->eK ws (hs.set w u) h r x
 | _,_,[],e,_=>e
 | h,_,s::r,⟨e1,⟨e2,e3⟩,e4⟩,hn=>by
  refine ⟨e1,⟨?_,e3⟩,yE hg e4 fun s' hs'=>hn s' (Av _ hs')⟩
  have hne:w≠s.1:=fun z=>by
   subst z
   rw [hg] at e2
   exact hn s (Ao ..) (e1.trans (Option.some.inj e2).symm)
  rw [Ep hne]
  exact e2
theorem yF {hs:List Int} {h x:Int} {ss:List (Nat×Int×Int)} (hp:eK ws hs h ss x):∀ s∈ss,s.2.1∈h::ss.map (·.2.2):=fun s hs'=>by
 rw [<- mU hp]
 exact Cf _ (Bd.mpr ⟨s,hs',rfl⟩)
theorem mV:∀ (ss:List (Nat×Int×Int)) {hs:List Int} {h x:Int},eK ws hs h ss x->(h::ss.map (·.2.2)).Nodup->∀ c:Int,(((dQ hs ss).count c:Nat):Int)=((hs.count c:Nat):Int) - (if c=h then 1 else 0)+(if c=x then 1 else 0)
 | [],hs,h,x,hp,_,c=>by
  have e:h=x:=hp
  subst e
  show ((hs.count c:Nat):Int)=_
  omega
 | s::r,hs,h,x,⟨e1,e2,e3⟩,hn,c=>by
  rw [Ba,Cu] at hn
  have h1:=yE (u:=s.2.2) e2.1 e3 fun s' hs' z=>hn.1 (by rw [<- z]; exact yF e3 s' hs')
  have ih:=mV r h1 hn.2 c
  have e:=sB hs s.1 h s.2.2 c e2.1
  show (((dQ (hs.set s.1 s.2.2) r).count c:Nat):Int)=_
  omega
theorem oR:∀ (ss:List (Nat×Int×Int)) {hs:List Int},(∀ s∈ss,∃ l,ws[s.1]?=some l/\s.2.2∈l)->(∀ (j:Nat) (h:Int) (l:List Int),hs[j]?=some h->ws[j]?=some l->h∈l)->∀ (j:Nat) (h:Int) (l:List Int),(dQ hs ss)[j]?=some h->ws[j]?=some l->h∈l
 | [],_,_,hd=>hd
 | s::r,hs,hl,hd=>oR r (fun s' h'=>hl s' (Av _ h')) fun j h l e1 e2=>by
  obtain ⟨l',z1,z2⟩:=hl s (Ao ..)
  rw [Di] at e1
  by_cases z:s.1=j
  ·subst z
   rw [if_pos rfl] at e1
   split at e1
   ·rw [z1] at e2
    rw [<- Option.some.inj e2,<- Option.some.inj e1]; exact z2
   ·cases e1
  ·rw [if_neg z] at e1
   exact hd j h l e1 e2
def Tri:Nat->Nat
 | 0=>0
 | k+1=>Tri k+k
def Sm (g:Nat->Nat):Nat->Nat
 | 0=>0
 | n+1=>Sm g n+g n
theorem aAT {g g':Nat->Nat}:∀ n:Nat,(∀ i,i < n->g' i=g i)->Sm g' n=Sm g n
 | 0,_=>rfl
 | n+1,h=>by show Sm g' n+g' n=Sm g n+g n; rw [aAT n fun i hi=>h i (by omega),h n (by omega)]
theorem aAe {g g':Nat->Nat} {a:Nat}:∀ n:Nat,a < n->(∀ i,i < n->i≠a->g' i=g i)->Sm g' n+g a=Sm g n+g' a
 | 0,h,_=>by omega
 | n+1,h,hh=>by
  show Sm g' n+g' n+g a=Sm g n+g n+g' a
  by_cases e:a=n
  ·subst e
   rw [aAT a fun i hi=>hh i (by omega) (by omega)]
   omega
  ·have ih:=aAe (g:=g) (g':=g') n (by omega) fun i hi hn=>hh i (by omega) hn
   rw [hh n (by omega) (fun z=>e z.symm)]
   omega
theorem aC7:∀ k:Nat,k<=12->Tri k<=12*k
 | 0,_=>Ai _
 | k+1,h=>by have:=aC7 k (by omega); show Tri k+k<=_; omega
theorem aEw {g:Nat->Nat} {b:Nat} (h:∀ i,g i<=b):∀ n,Sm g n<=b*n
 | 0=>Bo _
 | n+1=>by have:=aEw h n; have:=h n; show Sm g n+g n<=_; rw [Nat.mul_succ]; omega
def Phi (n:Nat) (hs:List Int):Nat:=Sm (fun i=>Tri (hs.count (i:Int))) n
theorem aE9 {n:Nat} {hs:List Int} (h6:n<=6) (h:hs.length<=12):Phi n hs<=864:=by
 have:=aEw (g:=fun i=>Tri (hs.count (i:Int))) (b:=144) (fun i=>by
  have h1:hs.count (i:Int)<=hs.length:=De
  have h2:=aC7 _ (At h1 h)
  show Tri (hs.count (i:Int))<=144
  omega) n
 unfold Phi
 omega
theorem aC8 {n:Int} {hs:List Int} {ss:List (Nat×Int×Int)} (W:pJ n ws hs ss) (ht:∀ g w t,gH ws hs g w t->0<=t/\t < n):Phi n.toNat (dQ hs ss) < Phi n.toNat hs:=by
 obtain ⟨h,x,hne,hP,hN,hh0,hh1,hRL,hge⟩:=W
 obtain ⟨s,hs'⟩:∃ s,ss[ss.length - 1]?=some s:=⟨_,Ae (by have:=Ev.mpr hne; omega)⟩
 have ex:=uE hP s hs'
 have hx:=ht _ _ _ (lN hP _ s hs').1
 rw [ex] at hx
 have hc:=mV ss hP hN
 have hhx:h≠x:=fun z=>by rw [z] at hge; omega
 have e1:=aAe (g:=fun i=>Tri (hs.count (i:Int))) (g':=fun i=>if i=h.toNat then Tri (hs.count h - 1) else Tri (hs.count (i:Int))) (a:=h.toNat) n.toNat (by omega) (fun i _ z=>if_neg z)
 have e2:=aAe (g:=fun i=>if i=h.toNat then Tri (hs.count h - 1) else Tri (hs.count (i:Int))) (g':=fun i=>Tri ((dQ hs ss).count (i:Int))) (a:=x.toNat) n.toNat (by omega) (fun i hi z=>by
  have hci:=hc (i:Int)
  by_cases zh:i=h.toNat
  ·have zi:(i:Int)=h:=by omega
   rw [if_pos zh]
   rw [zi,if_pos rfl,if_neg hhx] at hci
   rw [zi]
   show Tri ((dQ hs ss).count h)=_
   congr 1
   omega
  ·rw [if_neg zh]
   rw [if_neg (show ¬ (i:Int)=h by omega),if_neg (show ¬ (i:Int)=x by omega)] at hci
   show Tri ((dQ hs ss).count (i:Int))=_
   congr 1
   omega)
 have ch:((h.toNat:Nat):Int)=h:=by omega
 have cx:((x.toNat:Nat):Int)=x:=by omega
 simp only [if_pos,ch,cx,if_neg (show ¬ x.toNat=h.toNat by omega)] at e1 e2
 have hcx:=hc x
 rw [if_neg (fun z=>hhx z.symm),if_pos rfl] at hcx
 have hcx':(dQ hs ss).count x=hs.count x+1:=by omega
 rw [hcx'] at e2
 have t1:Tri (hs.count x+1)=Tri (hs.count x)+hs.count x:=rfl
 have t2:Tri (hs.count h)=Tri (hs.count h - 1)+(hs.count h - 1):=by
  have:hs.count h=(hs.count h - 1)+1:=by omega
  conv=>lhs; rw [this]
  rfl
 unfold Phi
 omega
def nU (n:Int) (ws:List (List Int)):List Int->List (List (Nat×Int×Int))->List Int->Prop
 | hs,[],he=>hs=he
 | hs,ss::r,he=>pJ n ws hs ss/\nU n ws (dQ hs ss) r he
theorem nU.snoc {n:Int}:∀ {hs:List Int} {W:List (List (Nat×Int×Int))} {hc:List Int} {ss:List (Nat×Int×Int)},nU n ws hs W hc->pJ n ws hc ss->nU n ws hs (W++[ss]) (dQ hc ss)
 | _,[],_,_,e,w=>by cases e; exact ⟨w,rfl⟩
 | _,_::_,_,_,⟨a,b⟩,w=>⟨a,nU.snoc b w⟩
end
end Ab
namespace Ab
open PySem L2
theorem aAU:∀ (ss:List (Nat×Int×Int)) (hs:List Int),mD hs (ss.map jX)=dQ hs ss
 | [],_=>rfl
 | s::r,hs=>by
  have e:((jX s).getD 0 0).toNat=s.1:=Bh _
  show mD (hs.set ((jX s).getD 0 0).toNat (rR (jX s))) (r.map jX)=dQ (hs.set s.1 s.2.2) r
  rw [e,aAU r]
  rfl
theorem aEa {ws:List (List Int)} {hs:List Int} {h x:Int} {ss:List (Nat×Int×Int)} (hne:ss≠[]) (hP:eK ws hs h ss x) (hN:(h::ss.map (·.2.2)).Nodup):rS ws hs (ss.map jX)=true:=by
 have hp:bP (ss.map jX)=h::ss.map (·.2.2):=by
  cases ss with
  | nil=>exact absurd rfl hne
  | cons s r =>
   show jS (jX s)::((s::r).map jX).map rR=_
   rw [Ez,show jS (jX s)=h from hP.1]
   rfl
 unfold rS qA
 rw [hp,decide_eq_true hN,Fm,Az,Az]
 refine ⟨?_,?_,?_⟩
 ·cases ss with
  | nil=>exact absurd rfl hne
  | cons _ _=>rfl
 ·rw [Bf]
  intro st hst
  obtain ⟨s,hs',rfl⟩:=Bd.mp hst
  obtain ⟨i,hi⟩:=Bb.mp hs'
  obtain ⟨⟨e1,l,e2,e3,e4⟩,_⟩:=lN hP i s hi
  have hlt:=(Ad.mp e1).1
  show (decide (0<=(s.1:Int)) && (decide ((s.1:Int) < hs.length) && (hs[(s.1:Int).toNat]?==some s.2.1 && (!decide (s.2.2=s.2.1) && decide (s.2.2∈ws.getD (s.1:Int).toNat [])))))=true
  rw [Bh,e1,Bc,e2,decide_eq_true (show (0:Int)<=s.1 by omega),decide_eq_true (show (s.1:Int) < hs.length by omega),decide_eq_false e4,decide_eq_true (show s.2.2∈(some l).getD [] from e3)]
  simp
 ·rw [<- mU hP,Bf]
  intro p hp'
  obtain ⟨i,hi⟩:=Bb.mp hp'
  rw [By] at hi
  obtain ⟨h1,h2⟩:=hi
  rw [Af] at h1
  cases q:ss[i]? with
  | none=>rw [q] at h1; cases h1
  | some s =>
   rw [q] at h1
   have hlt:=(Ad.mp q).1
   rw [Bk (by rw [Ac]; exact hlt),Af,q] at h2
   rw [<- Option.some.inj h1,<- Option.some.inj h2]
   exact beq_self_eq_true _
structure WaysAt (H:Hp) (qs:List Addr) (Ws:List (List (Nat×Int×Int))):Prop where
 len:qs.length=Ws.length
 at_:∀ (i:Nat) q ss,qs[i]?=some q->Ws[i]?=some ss->∃ ps:List Addr,H q=some (.lst (ps.map V.ref))/\StepsAt H ps ss
theorem WaysAt.same {H H':Hp} {qs:List Addr} {Ws:List (List (Nat×Int×Int))} (h:WaysAt H qs Ws) (s:aE H H'):WaysAt H' qs Ws:=⟨h.len,fun i q ss a b=>let ⟨ps,h1,h2⟩:=h.at_ i q ss a b; ⟨ps,s _ _ h1,h2.tp (Tp.of s)⟩⟩
theorem Tp.but {H H':Hp} {t:Addr} {zs:List V} (b:But t H H') (ht:H t=some (.lst zs)):Tp H H':=fun p xs h=>b p _ (fun z=>by rw [z,ht] at h; cases h) h
theorem WaysAt.but {H H':Hp} {qs:List Addr} {Ws:List (List (Nat×Int×Int))} {t:Addr} {zs:List V} (h:WaysAt H qs Ws) (b:But t H H') (ht:H t=some (.lst zs)) (hn:∀ q∈qs,q≠t):WaysAt H' qs Ws:=⟨h.len,fun i q ss a e=>let ⟨ps,h1,h2⟩:=h.at_ i q ss a e; ⟨ps,b _ _ (hn q (Ah a)) h1,h2.tp (Tp.but b ht)⟩⟩
theorem WaysAt.snoc {H:Hp} {qs:List Addr} {Ws:List (List (Nat×Int×Int))} {q:Addr} {ps:List Addr} {ss:List (Nat×Int×Int)} (h:WaysAt H qs Ws) (h1:H q=some (.lst (ps.map V.ref))) (h2:StepsAt H ps ss):WaysAt H (qs++[q]) (Ws++[ss]):=by
 refine ⟨by rw [Aq,Aq,h.len]; rfl,fun i q' ss' a b=>?_⟩
 by_cases hi:i < qs.length
 ·rw [Bk hi] at a
  rw [Bk (by rw [<- h.len]; exact hi)] at b
  exact h.at_ i q' ss' a b
 ·rw [Cc (by omega)] at a
  rw [Cc (by rw [<- h.len]; omega)] at b
  have hlt:=(Ad.mp a).1
  have e0:i - qs.length=0:=by simp at hlt; omega
  rw [e0] at a
  rw [<- h.len,e0] at b
  have ea:q=q':=by simpa using a
  have eb:ss=ss':=by simpa using b
  subst ea; subst eb
  exact ⟨ps,h1,h2⟩
def aFa (n:Int) (ws:List (List Int)) (hs:List Int) (H':Hp) (p:Addr):Prop :=
 ∃ wl dl qs Ws he lv,H' p=some (.tup [.ref wl,.ref dl])/\H' wl=some (.lst (qs.map V.ref))/\WaysAt H' qs Ws/\Ws.length<=864/\H' dl=some (.tup (he.map V.int))/\nU n ws hs Ws he/\gT n ws he lv
section
variable {P:Program} {w:World} {K:PySem.W.Frag} {mg:Str->Option Value} {base:Heap}
def sC (K:PySem.W.Frag) (Pt:Addr):Sp:=fun vs H Q _=>∃ x y n ws hs,vs = [x,y]/\fY K H x y n ws hs/\H Pt=some (.tab yA)/\∀ p H',aE H H'->aFa n ws hs H' p->Q (.ref p) H'
theorem fY.but {H H':Hp} {x y:V} {n:Int} {ws:List (List Int)} {hs:List Int} {t:Addr} {zs:List V} (g:fY K H x y n ws hs) (b:But t H H') (ht:H t=some (.lst zs)):fY K H' x y n ws hs:=⟨b.den ht _ _ (kU n ws) g.1,g.2.1,b.den ht _ _ (xW hs) g.2.2.1,g.2.2.2⟩
theorem fY.edge {H:Hp} {x y:V} {n:Int} {ws:List (List Int)} {hs:List Int} (g:fY K H x y n ws hs):∀ a w t,gH ws hs a w t->0<=t/\t < n:=fun a w t e=>by
 obtain ⟨_,_,hw12,hws⟩:=bG g.2.1
 obtain ⟨_,l,h1,h2,_⟩:=e
 exact (bL (hws l (Ah h1))).2.1 t h2
theorem fY.short {H:Hp} {x y:V} {n:Int} {ws:List (List Int)} {hs:List Int} {ss:List (Nat×Int×Int)} (g:fY K H x y n ws hs) (W:pJ n ws hs ss):ss.length<=12:=by
 obtain ⟨hl12,hn1,hn6⟩:=g.len
 obtain ⟨h,xx,hne,hP,hN,hh0,hh1,hRL,hge⟩:=W
 have:=lM n.toNat (h::ss.map (·.2.2)) hN fun z hz=>by
  rcases Am.mp hz with rfl | hz
  ·omega
  ·obtain ⟨s',hs',rfl⟩:=Bd.mp hz
   obtain ⟨i,hi⟩:=Bb.mp hs'
   have:=g.edge _ _ _ (lN hP i s' hi).1
   omega
 rw [Bg,Ac] at this
 omega
theorem fY.gone {H:Hp} {x y:V} {n:Int} {ws:List (List Int)} {hs:List Int} {ss:List (Nat×Int×Int)} (g:fY K H x y n ws hs) (W:pJ n ws hs ss) {d:Addr} (hd:SqT K H d ((dQ hs ss).map V.int)):fY K H x (.ref d) n ws (dQ hs ss):=by
 obtain ⟨hdl,hdg⟩:=cX g.2.2.2
 obtain ⟨h,xx,hne,hP,_⟩:=W
 refine ⟨g.1,g.2.1,aX.mpr ⟨d,rfl,hd⟩,pZ (by rw [jJ]; exact hdl) (oR ss (fun s hs'=>?_) hdg)⟩
 obtain ⟨i,hi⟩:=Bb.mp hs'
 obtain ⟨⟨_,l,e2,e3,_⟩,_⟩:=lN hP i s hi
 exact ⟨l,e2,e3⟩
theorem fU:FnScope ["book", "deal", "ways", "word", "shown"] ["book", "deal"] (aH jE):=⟨rfl,rfl,rfl,by decide +kernel,rfl,by decide +kernel,by decide +kernel⟩
theorem yG {f fLw fG Pt:Addr} {fd dLw dG:FuncData} (G:Fn K mg "bettered" jE ["book", "deal"] f fd) (B:Bl mg)
  (GLw:Fn K mg "levels_or_way" aCQ ["book", "deal"] fLw dLw) (OLw:FnOk P w K mg base CX0 8 fLw dLw ["book", "deal"] (aAR K Pt))
  (GG:Fn K mg "gone" aAJ ["book", "deal", "some"] fG dG) (OG:FnOk P w K mg base CX0 9 fG dG ["book", "deal", "some"] (aC6 K)):FnOk P w K mg base CX0 10 f fd ["book", "deal"] (sC K Pt):=by
 refine G.fn.ok fU (fun vs H Q E h=>?_) (fun cdv A outer s H vs Q E hr h=>?_)
 ·obtain ⟨x,y,n,ws,hs,rfl,_⟩:=h
  rfl
 ·obtain ⟨x,y,n,ws,hs,rfl,g,hT,k⟩:=h
  have r9:Room 9 _:=hr
  have r8:Room 8 _:=hr.mono (by decide)
  refine ⟨_,(aD (aV (i:=2) fU.nd rfl (Or.inl rfl) (eV aC))
  (aD (fZ (aW GLw OLw r8 rfl (aA (pv 0) (aA (pv 1) aC))) (eG rfl (aO (aI (i:=3) fU.nd rfl (Or.inl rfl)) (aO (aI (i:=4) fU.nd rfl (Or.inl rfl)) cH))))
  (aD (mY PassesOwn.never (aL iC (pv 3) yM (aN _))
   (aD (dZ (oZ PySem.F.plainAttrs_list PySem.F.slot_list_append PySem.F.type_list_append hX (pv 2) (aA (pv 4) aC)))
  (aD (aV (i:=1) fU.nd rfl (Or.inl rfl) (aW GG OG r9 rfl (aA (pv 0) (aA (pv 1) (aA (pv 4) aC)))))
  (aF (fZ (aW GLw OLw r8 rfl (aA (pv 0) (aA (pv 1) aC))) (eG rfl (aO (aI (i:=3) fU.nd rfl (Or.inl rfl)) (aO (aI (i:=4) fU.nd rfl (Or.inl rfl)) cH))))))))
  (aF (aQ (bX (aA (pv 2) (aA (bH bM rfl B.tuple bT (aA (bO (own:=["hand"]) (fr:=[]) (frn:=[]) (aU (aH jE) ["book", "deal", "ways", "word", "shown"] rfl rfl (by decide +kernel)) rfl (eA (pv 1))
    (fun _ _ _ _=>(aI (i:=0) (show (["hand"]:List Str).Nodup by decide +kernel) rfl (Or.inl rfl))) (fun _ _ _ _=>cT)
    (fun _ _ _ _=>(pv 0))) aC)) aC)))))))),?_⟩
  obtain ⟨hl12,hn1,hn6⟩:=g.len
  obtain ⟨c0,rfl,_⟩:=aX.mp g.2.2.1
  refine ⟨cZ (Bo _),fun wl hwl=>?_⟩
  have s0:=aE.new (o:=.lst []) hwl
  have e0:upd H wl (.lst []) wl=some (.lst []):=aB
  generalize upd H wl (.lst [])=H0 at s0 e0 ⊢
  refine ⟨_,rfl,_,rfl,x,.ref c0,n,ws,hs,rfl,g.same s0,s0 _ _ hT,fun p1 H1 s1 TD=>?_⟩
  obtain ⟨W,hW⟩:∃ W:Nat->St->Hp->Prop,W=fun m σ H1=>∃ (d q:Addr) (hc:List Int) (Ws:List (List (Nat×Int×Int))) (qs:List Addr) (word:Str),σ = [some x,some (.ref d),some (.ref wl),some (.str word),some (.ref q)]/\aE H H1/\fY K H1 x (.ref d) n ws hc/\H1 wl=some (.lst (qs.map V.ref))/\WaysAt H1 qs Ws/\(∀ z∈qs,z≠wl)/\nU n ws hs Ws hc/\Ws.length+Phi n.toNat hc<=864/\m=Phi n.toNat hc /\
    ((word = "levels" /\ ∃ lv,gT n ws hc lv)∨(word = "way" /\ q≠wl/\∃ ps ss,H1 q=some (.lst (ps.map V.ref))/\StepsAt H1 ps ss/\pJ n ws hc ss)):=⟨_,rfl⟩
  -- what is told is taken up
  have take:∀ (d p1:Addr) (hc:List Int) (Ws:List (List (Nat×Int×Int))) (qs:List Addr) (Ha Hb:Hp),aE H Ha->aE Ha Hb->fY K Ha x (.ref d) n ws hc->Ha wl=some (.lst (qs.map V.ref))->WaysAt Ha qs Ws->(∀ z∈qs,z≠wl)->nU n ws hs Ws hc->Ws.length+Phi n.toNat hc<=864->aFV n ws hc Ha Hb p1 ->
    ∃ word q,Hb p1=some (.tup [.str word,.ref q])/\W (Phi n.toNat hc) [some x,some (.ref d),some (.ref wl),some (.str word),some (.ref q)] Hb:=by
   intro d p1 hc Ws qs Ha Hb sa sb ga ea wa na ca la TD
   subst hW
   rcases TD with ⟨q,lv,h1,_,h2⟩ | ⟨q,ps,ss,h1,h2,h3,h4,h5⟩
   ·exact ⟨_,q,h1,d,q,hc,Ws,qs,_,rfl,sa.trans sb,ga.same sb,sb _ _ ea,wa.same sb,na,ca,la,rfl,.inl ⟨rfl,lv,h2⟩⟩
   ·exact ⟨_,q,h1,d,q,hc,Ws,qs,_,rfl,sa.trans sb,ga.same sb,sb _ _ ea,wa.same sb,na,ca,la,rfl,.inr ⟨rfl,(fun z=>by rw [z,ea] at h2; cases h2),ps,ss,h3,h4,h5⟩⟩
  obtain ⟨word,q,h1,w1⟩:=take c0 p1 hs [] [] H0 H1 s0 s1 (g.same s0) e0 ⟨rfl,fun i q ss a=>by simp at a⟩ (fun _ h=>(Ap h).elim) rfl (by have:=aE9 (n:=n.toNat) (hs:=hs) (by omega) hl12; simpa using this) TD
  refine ⟨p1,_,rfl,SqT.of h1,rfl,_,_,rfl,_,_,rfl,rfl,?_⟩
  refine ⟨W,⟨_,w1⟩,?_⟩
  intro m σ H2 w2
  have w2':=w2
  rw [hW] at w2'
  obtain ⟨d,q,hc,Ws,qs,word,rfl,s2,g2,e2,wa2,na2,ch2,le2,hm,alt⟩:=w2'
  refine ⟨_,rfl,rfl,_,rfl,?_⟩
  rcases alt with ⟨rfl,lv,hlv⟩ | ⟨rfl,nq,ps,ss,hq,hS,hWy⟩
  ·rw [decide_eq_false (show ¬ V.str "levels" = V.str "way" by intro z; injection z with z; revert z; decide)]
   refine cE ?_
   obtain ⟨c1,ec,hc1⟩:=aX.mp g2.2.2.1
   obtain rfl:d=c1:=by injection ec
   obtain ⟨hlc,_,_⟩:=g2.len
   refine ⟨_,rfl,_,rfl,d,rfl,⟨_,hc1⟩,iF (K:=K) (a:=d) (xs:=hc.map V.int) (vs:=hc.map V.int) (fun σ=>∃ v,σ = [v]) (by rw [Ac]; omega) rfl hc1 ⟨none,rfl⟩ ?_ ?_⟩
   ·rintro j xv v σ H3 hx hv ⟨v',rfl⟩ s3 Q' hQ'
    rw [hx] at hv
    obtain rfl:=Option.some.inj hv
    exact ⟨_,rfl,hQ' _ _ ⟨_,rfl⟩ (aE.refl _)⟩
   ·rintro H3 s3 z hz
    have s4:=aE.new (o:=.lst (hc.map V.int)) hz
    refine ⟨z,_,rfl,.inl ⟨SqL.of aB,fun dl hdl=>?_⟩⟩
    have s5:=aE.new (o:=.tup (hc.map V.int)) hdl
    refine ⟨sz2 _ _,fun p hp=>?_⟩
    have s6:=aE.new (o:=.tup [.ref wl,.ref dl]) hp
    have s36:=((s3.trans s4).trans s5).trans s6
    exact k p _ (s2.trans s36) ⟨wl,dl,qs,Ws,hc,lv,aB,s36 _ _ e2,wa2.same s36,by omega,s6 _ _ aB,ch2,hlv⟩
  ·rw [decide_eq_true rfl]
   refine eR ?_
   refine ⟨fun σ' H'=>∃ m',m' < m/\W m' σ' H',fun _ _ z=>z,?_⟩
   have hql:(qs.map V.ref).length < sizeLine:=by rw [Ac,wa2.len]; exact Ec (show Ws.length<=864 by omega) (by rw [sizeLine_eq]; decide)
   refine ⟨_,rfl,.inl ⟨rfl,_,SqL.of e2⟩,_,rfl,wl,_,_,rfl,rfl,e2,hql,?_⟩
   have b3:But wl H2 (upd H2 wl (.lst (qs.map V.ref++[.ref q]))):=But.at
   have e3:upd H2 wl (.lst (qs.map V.ref++[.ref q])) wl=some (.lst ((qs++[q]).map V.ref)):=by rw [aB,Ay]; rfl
   have s3:aE H (upd H2 wl (.lst (qs.map V.ref++[.ref q]))):=s2.wr hwl
   have g3:=g2.but b3 e2
   have hq3:=b3 _ _ nq hq
   have hS3:=hS.tp (Tp.but b3 e2)
   have wa3:=(wa2.but b3 e2 na2).snoc hq3 hS3
   generalize upd H2 wl (.lst (qs.map V.ref++[.ref q]))=H3 at b3 e3 s3 g3 hq3 hS3 wa3 ⊢
   obtain ⟨h,xx,hne,hP,hN,hrest⟩:=id hWy
   have hsl:=g2.short hWy
   refine ⟨_,rfl,_,rfl,_,rfl,x,.ref d,q,ps.map V.ref,n,ws,hc,ss.map jX,rfl,⟨g3,SqL.of hq3,hS3.den,by rw [Ac]; omega,fun l hl=>?_⟩,aEa hne hP hN,fun d' H4 s4 hd' e4=>?_⟩
   ·obtain ⟨s',_,rfl⟩:=Bd.mp hl
    exact (show 3<=1000 by decide)
   rw [aAU] at e4
   have g4:=(g3.same s4).gone hWy (SqT.of e4)
   have hless:=aC8 hWy g2.edge
   refine ⟨_,rfl,_,rfl,x,.ref d',n,ws,dQ hc ss,rfl,g4,s4 _ _ (s3 _ _ hT),fun p5 H5 s5 TD5=>?_⟩
   obtain ⟨word,q',h5,w5⟩:=take d' p5 (dQ hc ss) (Ws++[ss]) (qs++[q]) H4 H5 (s3.trans s4) s5 g4 (s4 _ _ e3) (wa3.same s4) (fun z hz=>by
    rcases Bp.mp hz with hz | hz
    ·exact na2 z hz
    ·rw [An.mp hz]; exact nq) (ch2.snoc hWy) (by rw [Aq]; show Ws.length+1+_<=864; omega) TD5
   refine ⟨p5,_,rfl,SqT.of h5,rfl,_,_,rfl,_,_,rfl,rfl,?_⟩
   exact ⟨_,by omega,w5⟩
end
theorem jU:∀ (a b:List Int),bE (a++b)=bE a+bE b
 | [],b=>by rw [Dr,show bE ([]:List Int)=0 from rfl,Fw]
 | x::a,b=>by
  show x+bE (a++b)=x+bE a+bE b
  rw [jU a b]; omega
theorem aAf {a b:List Int} (h:a.Perm b):bE a=bE b:=by
 induction h with
 | nil=>rfl
 | cons x _ ih=>exact congrArg (x + ·) ih
 | swap x y l=>show y+(x+bE l)=x+(y+bE l); omega
 | trans _ _ h1 h2=>exact h1.trans h2
theorem sD {α:Type} {f g:α->Int}:∀ {l:List α},(∀ x∈l,f x<=g x)->bE (l.map f)<=bE (l.map g)
 | [],_=>Dm _
 | x::l,h=>by
  show f x+bE (l.map f)<=g x+bE (l.map g)
  have h1:=h x (Ao ..)
  have h2:=sD (l:=l) (f:=f) (g:=g) fun y hy=>h y (Av _ hy)
  omega
theorem kY {α:Type} {f g:α->Int} {l:List α} (h:∀ x∈l,f x=g x):bE (l.map f)=bE (l.map g):=by
 rw [Dz h]
theorem lO {α:Type} (f g:α->Int):∀ (l:List α),bE (l.map fun x=>f x+g x)=bE (l.map f)+bE (l.map g)
 | []=>rfl
 | x::l=>by
  show f x+g x+bE (l.map fun x=>f x+g x)=f x+bE (l.map f)+(g x+bE (l.map g))
  rw [lO f g l]; omega
theorem jV {α:Type} {f:α->Int}:∀ {l:List α},(∀ x∈l,f x=0)->bE (l.map f)=0
 | [],_=>rfl
 | x::l,h=>by
  show f x+bE (l.map f)=0
  rw [h x (Ao ..),jV fun y hy=>h y (Av _ hy)]; rfl
def ex (t:Int) (l:List Int):Int:=bE (l.map fun x=>max (x - t) 0)
theorem uF (t:Int):∀ l:List Int,0<=ex t l
 | []=>Dm _
 | x::l=>by
  show 0<=max (x - t) 0+ex t l
  have:=uF t l
  omega
theorem aEb {t:Int} {a b:List Int} (h:a.Perm b):ex t a=ex t b:=aAf (h.map _)
theorem aEc {t:Int} {l:List Int} (h:∀ x∈l,x<=t):ex t l=0:=jV fun x hx=>by have:=h x hx; omega
def inS (p:Int->Bool) (hs:List Int):Int:=bE (hs.map fun h=>if p h then 1 else 0)
theorem aC9 {p:Int->Bool}:∀ {hs hs':List Int},hs.length=hs'.length->(∀ (i:Nat) g t,hs[i]?=some g->hs'[i]?=some t->p g=true->p t=true)->inS p hs<=inS p hs'
 | [],[],_,_=>Dm _
 | g::hs,t::hs',hl,h=>by
  have h1:=aC9 (p:=p) (hs:=hs) (hs':=hs') (by simpa using hl) fun i a b ha hb=>h (i+1) a b (by simpa using ha) (by simpa using hb)
  have h2:=h 0 g t rfl rfl
  show (if p g then (1:Int) else 0)+inS p hs<=(if p t then (1:Int) else 0)+inS p hs'
  cases hg:p g with
  | false =>
   simp only [Be,if_false]
   split <;> omega
  | true =>
   rw [h2 hg]
   simp only [if_true]
   omega
 | [],_::_,hl,_=>by simp at hl
 | _::_,[],hl,_=>by simp at hl
theorem aEd {m:Nat} {h:Int} (p:Int->Bool) (h0:0<=h) (h1:h < m):bE ((cG m).map fun i=>if p i then (if h=i then 1 else 0) else 0)=if p h then 1 else 0:=by
 induction m with
 | zero=>omega
 | succ m ih =>
  have e:cG (m+1)=cG m++[(m:Int)]:=by unfold cG; rw [Gb,Ay]; rfl
  rw [e,Ay,jU]
  show _+((if p (m:Int) then (if h=(m:Int) then (1:Int) else 0) else 0)+0)=_
  by_cases hm:h=(m:Int)
  ·rw [jV (l:=cG m) (f:=fun i=>if p i then (if h=i then 1 else 0) else 0) fun x hx=>by
    unfold cG at hx
    obtain ⟨i,hi,rfl⟩:=Bd.mp hx
    have hi':=Br.mp hi
    rw [if_neg (show ¬ h=((i:Nat):Int) by omega)]
    split <;> rfl]
   rw [if_pos hm,hm]
   omega
  ·rw [ih (by omega),if_neg hm]
   have:(if p (m:Int)=true then (0:Int) else 0)=0:=by split <;> rfl
   rw [this]
   omega
theorem jK {n:Int} (p:Int->Bool):∀ {hs:List Int},(∀ h∈hs,0<=h/\h < n)->bE ((cG n.toNat).map fun h=>if p h then ((hs.count h:Nat):Int) else 0)=inS p hs
 | [],_=>by
  show _=(0:Int)
  exact jV fun x _=>by
   rw [List.count_nil]
   split <;> rfl
 | h::hs,hh=>by
  have ih:=jK (n:=n) p (hs:=hs) fun x hx=>hh x (Av _ hx)
  have hb:=hh h (Ao ..)
  have e1:=aEd (m:=n.toNat) p hb.1 (by omega)
  show _=(if p h then (1:Int) else 0)+inS p hs
  rw [<- ih,<- e1,<- lO]
  refine kY fun i _=>?_
  rw [Ca]
  by_cases hp:p i=true
  ·rw [if_pos hp,if_pos hp,if_pos hp]
   by_cases hi:h=i
   ·rw [if_pos hi,if_pos (by rw [hi]; simp)]; omega
   ·rw [if_neg hi,if_neg (by simpa using hi)]; omega
  ·rw [if_neg hp,if_neg hp,if_neg hp]; rfl
theorem aBL {n:Int} {ws:List (List Int)} {hs hs' lv:List Int} (L:gT n ws hs lv) (hr:∀ h∈hs,0<=h/\h < n) (hr':∀ h∈hs',0<=h/\h < n) (hl:hs.length=hs'.length)
  (ha:∀ (i:Nat) t,hs'[i]?=some t->∃ l,ws[i]?=some l/\t∈l) (t:Int):ex t (cC n hs)<=ex t (cC n hs'):=by
 obtain ⟨hlv,hL⟩:=L
 have at_:∀ h:Int,0<=h->h < n->∃ v,lv[h.toNat]?=some v/\nR ws hs n.toNat h v/\((hs.count h:Nat):Int) - v < 2:=fun h h0 h1=>by
  have hlt:h.toNat < lv.length:=by omega
  have e:=Ae hlt
  obtain ⟨m1,m2⟩:=hL _ _ e
  rw [show ((h.toNat:Nat):Int)=h by omega] at m1 m2
  exact ⟨_,e,m1,m2⟩
 let p:Int->Bool:=fun h=>decide (t<=lv.getD h.toNat 0)
 have pv:∀ h v,lv[h.toNat]?=some v->p h=decide (t<=v):=fun h v e=>by
  show decide (t<=lv.getD h.toNat 0)=_
  rw [Bc,e]; rfl
 have up:∀ x∈cG n.toNat,0<=x/\x < n:=fun x hx=>by
  unfold cG at hx
  obtain ⟨i,hi,rfl⟩:=Bd.mp hx
  have:=Br.mp hi
  omega
 have e1:ex t (cC n hs)=bE ((cG n.toNat).map fun h=>if p h then ((hs.count h:Nat):Int) else 0)+bE ((cG n.toNat).map fun h=>if p h then -t else 0):=by
  unfold ex cC
  rw [Ez,<- lO]
  refine kY fun h hh=>?_
  obtain ⟨h0,h1⟩:=up h hh
  obtain ⟨v,ev,mv,dv⟩:=at_ h h0 h1
  have lev:=mv.le
  show max (((hs.count h:Nat):Int) - t) 0=_
  rw [pv h v ev]
  by_cases hp:t<=v
  ·rw [decide_eq_true hp,if_pos rfl,if_pos rfl]; omega
  ·rw [decide_eq_false hp,if_neg Ar,if_neg Ar]; omega
 have e2:bE ((cG n.toNat).map fun h=>if p h then ((hs'.count h:Nat):Int) else 0)+bE ((cG n.toNat).map fun h=>if p h then -t else 0)<=ex t (cC n hs'):=by
  unfold ex cC
  rw [Ez,<- lO]
  refine sD fun h hh=>?_
  show _<=max (((hs'.count h:Nat):Int) - t) 0
  split <;> omega
 have e3:inS p hs<=inS p hs':=by
  refine aC9 hl fun i g u hg hu hpg=>?_
  obtain ⟨l,el,hul⟩:=ha i u hu
  have gb:=hr g (Ah hg)
  have ub:=hr' u (Ah hu)
  obtain ⟨vg,evg,mg,_⟩:=at_ g gb.1 gb.2
  obtain ⟨vu,evu,mu,_⟩:=at_ u ub.1 ub.2
  rw [pv g vg evg] at hpg
  rw [pv u vu evu]
  have hle:vg<=vu:=by
   by_cases hgu:u=g
   ·subst hgu
    rw [evg] at evu
    rw [Option.some.inj evu]; exact Dm _
   ·exact mg.edge mu (w:=i) ⟨hg,l,el,hul,hgu⟩
  exact decide_eq_true (Int.le_trans (of_decide_eq_true hpg) hle)
 rw [jK p hr] at e1
 rw [jK p hr'] at e2
 omega
theorem sE {n:Int} {ws:List (List Int)}:∀ {Ws:List (List (Nat×Int×Int))} {hs he:List Int},nU n ws hs Ws he->gR ws (gQ hs)=true->gR ws (gQ he)=true
 | [],hs,he,c,h=>by
  have e:hs=he:=c
  rw [<- e]; exact h
 | ss::Ws,hs,he,⟨W,c⟩,h=>by
  refine sE c ?_
  obtain ⟨hdl,hdg⟩:=cX h
  obtain ⟨h0,xx,hne,hP,_⟩:=W
  refine pZ (by rw [jJ]; exact hdl) (oR ss (fun s hs'=>?_) hdg)
  obtain ⟨i,hi⟩:=Bb.mp hs'
  obtain ⟨⟨_,l,e2,e3,_⟩,_⟩:=lN hP i s hi
  exact ⟨l,e2,e3⟩
theorem tE {n:Int} {ws:List (List Int)} {hs lv:List Int} {ss:List (Nat×Int×Int)} (L:gT n ws hs lv) (W:pJ n ws hs ss):False:=by
 obtain ⟨h,x,hne,hP,hN,h0,h1,hRL,hge⟩:=W
 have hlt:h.toNat < lv.length:=by rw [L.1]; omega
 obtain ⟨m1,m2⟩:=L.2 h.toNat _ (Ae hlt)
 rw [show ((h.toNat:Nat):Int)=h by omega] at m1 m2
 have:=m1.2 _ x hRL
 omega
section
variable {P:Program} {w:World} {K:PySem.W.Frag} {mg:Str->Option Value} {base:Heap}
variable {fW fH fK fB fNB fD fND fL:Addr} {dW dH dK dB dNB dD dND dL:FuncData}
def uG (K:PySem.W.Frag) (Pt:Addr):Sp:=fun vs H Q _=>∃ (x:V) (n:Int) (ws:List (List Int)),vs = [x]/\Den K H (bD n ws) x/\bU (bD n ws)=true/\H Pt=some (.tab yA) /\
 ∀ (p dp lp:Addr) (hs lv:List Int) H',aE H H'->H' p=some (.tup [.ref dp,.ref lp])->H' dp=some (.tup (hs.map V.int))->gR ws (gQ hs)=true->H' lp=some (.tup (lv.map V.int))->gT n ws hs lv->Q (.ref p) H'
theorem oS:FnScope ["book", "ways", "deal"] ["book"] (aH kS):=⟨rfl,rfl,rfl,by decide +kernel,rfl,by decide +kernel,by decide +kernel⟩
theorem aAg {f fBt fLw Pt:Addr} {fd dBt dLw:FuncData} (G:Fn K mg "evenest" kS ["book"] f fd) (B:Bl mg) (R:Pr K mg fW fH fK fB fNB fD fND fL dW dH dK dB dNB dD dND dL)
  (GBt:Fn K mg "bettered" jE ["book", "deal"] fBt dBt) (OBt:FnOk P w K mg base CX0 10 fBt dBt ["book", "deal"] (sC K Pt)) (GLw:Fn K mg "levels_or_way" aCQ ["book", "deal"] fLw dLw) (OLw:FnOk P w K mg base CX0 8 fLw dLw ["book", "deal"] (aAR K Pt)):FnOk P w K mg base CX0 11 f fd ["book"] (uG K Pt):=by
 have ONB:FnOk P w K mg base CX0 4 fNB dNB ["book"] (pY K):=rK B R
 refine G.fn.ok oS (fun vs H Q E h=>?_) (fun cdv A outer s H vs Q E hr h=>?_)
 ·obtain ⟨x,n,ws,rfl,_⟩:=h
  rfl
 ·obtain ⟨x,n,ws,rfl,hx,hbk,hT,k⟩:=h
  have r4:Room 4 _:=hr.mono (by decide)
  have r8:Room 8 _:=hr.mono (by decide)
  have r10:Room 10 _:=hr
  refine ⟨_,(aD (dZ (aW R.NB ONB r4 rfl (aA (pv 0) aC)))
  (aD (fZ (aW GBt OBt r10 rfl (aA (pv 0) (aA (bH bM rfl B.tuple bT (aA (bO (own:=["able"]) (fr:=[]) (frn:=[]) (aU (aH kS) ["book", "ways", "deal"] rfl rfl (by decide +kernel)) rfl (eA (bA bK (pv 0) aG (fun _ _=>rfl)))
    (fun _ _ _ _=>(aI (i:=0) (show (["able"]:List Str).Nodup by decide +kernel) rfl (Or.inl rfl))) (fun _ _ _ _=>cT)
    (fun _ _ _ _=>(bA (jQ (K:=K) rfl) (pv 0) aG (fun _ _=>rfl)))) aC)) aC))) (eG rfl (aO (aI (i:=1) oS.nd rfl (Or.inl rfl)) (aO (aI (i:=2) oS.nd rfl (Or.inl rfl)) cH))))
  (aF (aQ (bX (aA (pv 2) (aA (bA bK (aW GLw OLw r8 rfl (aA (pv 0) (aA (pv 2) aC))) aG (fun _ _=>rfl)) aC))))))),?_⟩
  obtain ⟨hn1,hn6,hw12,hws⟩:=bG hbk
  refine ⟨_,rfl,x,bD n ws,rfl,hx,hbk,fun H1 s1=>?_⟩
  have hx1:=s1.den _ _ hx
  obtain ⟨a,b,ys,rfl,ha,hb2,hys⟩:=cR hx1
  have hlw:=aP hys
  rw [Ac] at hlw
  refine ⟨_,rfl,_,rfl,a,_,1,.ref b,rfl,rfl,ha,rfl,b,rfl,⟨_,hb2⟩,gA (K:=K) (a:=b) (xs:=ys) (fun σ=>∃ v,σ = [v]) (fun i zs H2=>H2=H1/\zs=((ws.take i).map fun l=>l.headD 0).map V.int) (cZ (by omega)) ⟨none,rfl⟩ ⟨rfl,rfl⟩ (fun i zs H2 z=>by rw [z.2,Ac,Ac,Ax]; omega) (fun i zs H2 z=>by rw [z.1]; exact hb2) ?_ ?_⟩
  ·rintro i zs σ u H2 hu ⟨v,rfl⟩ ⟨rfl,rfl⟩ hz
   obtain ⟨dv,hdv,denv⟩:=cQ hys hu
   rw [Af] at hdv
   obtain ⟨l,hl,rfl⟩:∃ l,ws[i]?=some l/\bF l=dv:=by
    cases q:ws[i]? with
    | none=>rw [q] at hdv; cases hdv
    | some l=>rw [q] at hdv; exact ⟨l,rfl,Option.some.inj hdv⟩
   obtain ⟨aw,rfl,haw⟩:=aX.mp denv
   obtain ⟨l0,_,_⟩:=bL (hws l (Ah hl))
   have hat:atI (l.map V.int) 0=some (.int (l.headD 0)):=by
    cases l with
    | nil=>exact absurd rfl l0
    | cons y l=>exact dJ (j:=0) rfl
   refine cW ?_
   refine ⟨_,rfl,aw,_,0,_,rfl,rfl,haw,hat,hz,⟨_,rfl⟩,rfl,?_⟩
   rw [Bm,hl,Ay,Ay]
   rfl
  ·rintro zs H2 ⟨rfl,rfl⟩ lq hlq
   rw [Bi (show ws.length<=ys.length by omega)]
   refine ⟨lq,_,rfl,.inl ⟨SqL.of aB,fun dq hdq=>?_⟩⟩
   have s3:=(aE.new (o:=.lst ((ws.map fun l=>l.headD 0).map V.int)) hlq).trans (aE.new (o:=.tup ((ws.map fun l=>l.headD 0).map V.int)) hdq)
   have d3:upd (upd H2 lq (.lst ((ws.map fun l=>l.headD 0).map V.int))) dq (.tup ((ws.map fun l=>l.headD 0).map V.int)) dq=some (.tup ((ws.map fun l=>l.headD 0).map V.int)):=aB
   generalize upd (upd H2 lq (.lst ((ws.map fun l=>l.headD 0).map V.int))) dq (.tup ((ws.map fun l=>l.headD 0).map V.int))=H3 at s3 d3 ⊢
   have hd0:gR ws (gQ (ws.map fun l=>l.headD 0))=true:=pZ (by rw [Ac]) fun j h l e1 e2=>by
    rw [Af,e2] at e1
    have e:l.headD 0=h:=Option.some.inj e1
    obtain ⟨l0,_,_⟩:=bL (hws l (Ah e2))
    cases l with
    | nil=>exact absurd rfl l0
    | cons y l=>rw [<- e]; exact Ao ..
   have s13:=s1.trans s3
   have g3:fY K H3 (.ref a) (.ref dq) n ws (ws.map fun l=>l.headD 0):=⟨s3.den _ _ hx1,hbk,aX.mpr ⟨dq,rfl,SqT.of d3⟩,hd0⟩
   refine ⟨.ref a,.ref dq,n,ws,_,rfl,g3,s13 _ _ hT,fun p H4 s4 hp=>?_⟩
   obtain ⟨wl,dl,qs,Ws,he,lv,hp4,_,_,_,hdl,hch,hlv⟩:=hp
   refine ⟨p,_,rfl,SqT.of hp4,rfl,_,_,rfl,_,_,rfl,rfl,?_⟩
   have hde:=sE hch hd0
   have s14:=s13.trans s4
   have g4:fY K H4 (.ref a) (.ref dl) n ws he:=⟨(s3.trans s4).den _ _ hx1,hbk,aX.mpr ⟨dl,rfl,SqT.of hdl⟩,hde⟩
   refine ⟨_,rfl,_,rfl,_,rfl,.ref a,.ref dl,n,ws,he,rfl,g4,s14 _ _ hT,fun p2 H5 s5 hp2=>?_⟩
   rcases hp2 with ⟨lq2,lv2,e1,e2,e3⟩ | ⟨_,_,ss,_,_,_,_,hW⟩
   ·refine ⟨p2,_,1,.ref lq2,rfl,rfl,SqT.of e1,rfl,sz2 _ _,fun r hr'=>?_⟩
    have s6:=aE.new (o:=.tup [.ref dl,.ref lq2]) hr'
    exact k r dl lq2 he lv2 _ (s14.trans (s5.trans s6)) aB ((s5.trans s6) _ _ hdl) hde (s6 _ _ e2) e3
   ·exact (tE hlv hW).elim
theorem kZ {l:List Int} {i:Nat} {v:V} (h:(l.map V.int)[i]?=some v):∃ x,l[i]?=some x/\V.int x=v:=by
 rw [Af] at h
 cases q:l[i]? with
 | none=>rw [q] at h; cases h
 | some x=>rw [q] at h; exact ⟨x,rfl,Option.some.inj h⟩
def yH (K:PySem.W.Frag):Sp:=fun vs H Q _=>∃ (p q:Addr) (la ls:List Int),vs = [.ref p,.ref q]/\SqT K H p (la.map V.int)/\SqT K H q (ls.map V.int)/\la.length<=1000/\∀ H',aE H H'->Q (.bl (la.all fun h=>ls.any (·==h))) H'
theorem aDa:FnScope ["able", "some"] ["able", "some"] (aH lI):=⟨rfl,rfl,rfl,by decide +kernel,rfl,by decide +kernel,by decide +kernel⟩
theorem aBM {f:Addr} {fd:FuncData} (G:Fn K mg "is_within" lI ["able", "some"] f fd) (B:Bl mg):FnOk P w K mg base CX0 1 f fd ["able", "some"] (yH K):=by
 refine G.fn.ok aDa (fun vs H Q E h=>?_) (fun cdv A outer s H vs Q E hr h=>?_)
 ·obtain ⟨p,q,la,ls,rfl,_⟩:=h
  rfl
 ·obtain ⟨p,q,la,ls,rfl,hp,hq,hl,k⟩:=h
  refine ⟨_,(aF (aQ (aK (eW rfl) rfl B.all lZ (aA (bO (own:=["hand"]) (fr:=[1]) (frn:=["some"]) (aU (aH lI) ["able", "some"] rfl rfl (by decide +kernel)) rfl (eA (pv 0))
    (fun _ _ _ _=>(aI (i:=0) (show (["hand", "some"]:List Str).Nodup by decide +kernel) rfl (Or.inl rfl))) (fun _ _ _ _=>cT)
    (fun _ _ _ _=>(fJ (rJ (K:=K) rfl) (pv 0) (pv 1) (by with_unfolding_all rfl)))) aC)))),?_⟩
  refine ⟨_,rfl,p,rfl,⟨_,hp⟩,iF (K:=K) (a:=p) (xs:=la.map V.int) (vs:=(la.map fun h=>ls.any (·==h)).map V.bl) (fun σ=>∃ v,σ = [v,some (.ref q)]) (by rw [Ac]; exact hl) (by rw [Ac,Ac,Ac]) hp ⟨none,rfl⟩ ?_ ?_⟩
  ·rintro i xv v σ H1 hx hv ⟨v0,rfl⟩ s1 Q' hQ'
   obtain ⟨h,hh,rfl⟩:=kZ hx
   have ev:v=V.bl (ls.any (·==h)):=by
    rw [Af,Af,hh] at hv
    exact (Option.some.inj hv).symm
   refine ⟨_,rfl,_,rfl,q,_,rfl,.inr (s1.seqT hq),rfl,iB _,?_⟩
   rw [jP]
   rw [ev] at hQ'
   exact hQ' _ _ ⟨_,rfl⟩ (aE.refl _)
  ·rintro H1 s1 z hz
   refine ⟨z,_,rfl,SqL.of aB,?_⟩
   rw [Du]
   exact k _ (s1.trans (aE.new hz))
def eC (n:Int) (rs:List Int):Prop:=rs.length=n.toNat/\∀ r∈rs,0<=r/\r<=12
def aAV (K:PySem.W.Frag):Sp:=fun vs H Q _=>∃ (x:V) (q:Addr) (n:Int) (ws:List (List Int)) (rs:List Int),vs = [x,.ref q]/\Den K H (bD n ws) x/\bU (bD n ws)=true/\SqT K H q (rs.map V.int)/\eC n rs/\∀ H',aE H H'->Q (.bl true) H'
theorem aEe:FnScope ["book", "thing"] ["book", "thing"] (aH mO):=⟨rfl,rfl,rfl,by decide +kernel,rfl,by decide +kernel,by decide +kernel⟩
theorem aDb {f:Addr} {fd:FuncData} (G:Fn K mg "are_rooms" mO ["book", "thing"] f fd) (B:Bl mg) (R:Pr K mg fW fH fK fB fNB fD fND fL dW dH dK dB dNB dD dND dL):FnOk P w K mg base CX0 5 f fd ["book", "thing"] (aAV K):=by
 have ONB:FnOk P w K mg base CX0 4 fNB dNB ["book"] (pY K):=rK B R
 have OW:FnOk P w K mg base CX0 1 fW dW ["thing"] (iS K):=iI R.W B
 refine G.fn.ok aEe (fun vs H Q E h=>?_) (fun cdv A outer s H vs Q E hr h=>?_)
 ·obtain ⟨x,q,n,ws,rs,rfl,_⟩:=h
  rfl
 ·obtain ⟨x,q,n,ws,rs,rfl,hx,hb,hq,⟨hlen,hr12⟩,k⟩:=h
  obtain ⟨t12,h12⟩:=B.mr
  have r4:Room 4 _:=hr
  have r1:Room 1 _:=hr.mono (by decide)
  refine ⟨_,(aD (dZ (aW R.NB ONB r4 rfl (aA (pv 0) aC)))
  (aD (bJ (PW.pt (eM (bZ (bW (aK bQ rfl B.isinstance iG (aA (pv 1) (aA (dY (v:=.ty "tuple") rfl B.tuple bT rfl) aC))))) (dP (aL iZ (aK aM rfl B.len cY (aA (pv 1) aC)) (bA bK (pv 0) aG (fun _ _=>rfl)) (aN _)))))
   (aF (aQ dM))
   aT)
  (aF (aQ (aK (eW rfl) rfl B.all lZ (aA (bO (own:=["room"]) (fr:=[]) (frn:=[]) (aU (aH mO) ["book", "thing"] rfl rfl (by decide +kernel)) rfl (eA (pv 1))
    (fun _ _ _ _=>(aI (i:=0) (show (["room"]:List Str).Nodup by decide +kernel) rfl (Or.inl rfl))) (fun _ _ _ _=>cT)
    (fun _ _ _ _=>(kC (aW R.W OW r1 rfl (aA (pv 0) aC)) (kB (wL qH qH aG (pv 0) (uR (v:=.int 12) rfl h12 ⟨t12,rfl⟩)))))) aC)))))),?_⟩
  obtain ⟨hn1,hn6,hw12,hws⟩:=bG hb
  refine ⟨_,rfl,x,_,rfl,hx,hb,fun H1 s1=>?_⟩
  obtain ⟨a,b,ys,rfl,ha,hb2,hys⟩:=cR (s1.den _ _ hx)
  have hq1:=s1.seqT hq
  refine ⟨_,rfl,.ref q,.tup,rfl,.inr (.inl ⟨rfl,_,hq1⟩),_,rfl,?_⟩
  refine cE ?_
  refine ⟨_,rfl,q,_,rfl,.inr hq1,_,rfl,a,_,0,.int n,rfl,rfl,ha,rfl,rfl,_,rfl,?_⟩
  have el:decide (V.int ((rs.map V.int).length:Nat)=V.int n)=true:=decide_eq_true (by rw [Ac,hlen]; congr 1; omega)
  rw [el]
  refine cE ?_
  refine ⟨_,rfl,q,rfl,⟨_,hq1⟩,iF (K:=K) (a:=q) (xs:=rs.map V.int) (vs:=(List.replicate rs.length true).map V.bl) (fun σ=>∃ v,σ = [v]) (by rw [Ac]; omega) (by rw [Ac,Bn,Ac]) hq1 ⟨none,rfl⟩ ?_ ?_⟩
  ·rintro i xv v σ H2 hxv hv ⟨v0,rfl⟩ s2 Q' hQ'
   obtain ⟨r,hr',rfl⟩:=kZ hxv
   obtain ⟨r0,r12⟩:=hr12 r (Ah hr')
   have ev:v=.bl true:=by
    obtain ⟨b,hb,rfl⟩:∃ b,b∈List.replicate rs.length true/\V.bl b=v:=Bd.mp (Ah hv)
    rw [Dj hb]
   subst ev
   refine ⟨_,rfl,_,.int r,rfl,cS.mpr rfl,_,rfl,?_⟩
   refine eR ?_
   refine ⟨_,rfl,_,_,rfl,rfl,_,rfl,?_⟩
   rw [decide_eq_true r0]
   refine eR ?_
   refine ⟨_,_,rfl,rfl,?_⟩
   have e12:decide (r<=12)=true:=decide_eq_true r12
   dsimp only
   rw [e12]
   exact hQ' _ _ ⟨_,rfl⟩ (aE.refl _)
  ·rintro H2 s2 z hz
   refine ⟨z,_,rfl,SqL.of aB,?_⟩
   rw [show (List.replicate rs.length true).all id=true by simp]
   exact k _ ((s1.trans s2).trans (aE.new hz))
def nV (K:PySem.W.Frag):Sp:=fun vs H Q _=>∃ (x:V) (q:Addr) (n:Int) (ws:List (List Int)) (rs:List Int),vs = [x,.ref q]/\Den K H (bD n ws) x/\bU (bD n ws)=true/\SqT K H q (rs.map V.int)/\eC n rs/\∀ H',aE H H'->Q .non H'
theorem aEf:FnScope ["book", "rooms"] ["book", "rooms"] (aH mP):=⟨rfl,rfl,rfl,by decide +kernel,rfl,by decide +kernel,by decide +kernel⟩
theorem yI {f fA:Addr} {fd dA:FuncData} (G:Fn K mg "need_rooms" mP ["book", "rooms"] f fd) (B:Bl mg) (R:Pr K mg fW fH fK fB fNB fD fND fL dW dH dK dB dNB dD dND dL) (GAr:Fn K mg "are_rooms" mO ["book", "thing"] fA dA):FnOk P w K mg base CX0 6 f fd ["book", "rooms"] (nV K):=by
 have OAr:FnOk P w K mg base CX0 5 fA dA ["book", "thing"] (aAV K):=aDb GAr B R
 refine G.fn.ok aEf (fun vs H Q E h=>?_) (fun cdv A outer s H vs Q E hr h=>?_)
 ·obtain ⟨x,q,n,ws,rs,rfl,_⟩:=h
  rfl
 ·obtain ⟨x,q,n,ws,rs,rfl,hx,hb,hq,hro,k⟩:=h
  refine ⟨_,aF (bJ (bZ (bW (aW GAr OAr hr rfl (aA (pv 0) (aA (pv 1) aC))))) lD aT),?_⟩
  refine ⟨_,rfl,_,rfl,x,q,n,ws,rs,rfl,hx,hb,hq,hro,fun H' s'=>⟨_,rfl,?_⟩⟩
  refine cE ?_
  exact k H' s'
theorem aDc {tA tB:TT} {σ:St} {H:Hp} {Q:Bool->Hp->Prop} (a b:Bool) (hA:∀ R:Bool->Hp->Prop,(∀ H2,aE H H2->R a H2)->tA σ H R) (hB:∀ H2,aE H H2->a=true->∀ R:Bool->Hp->Prop,(∀ H3,aE H2 H3->R b H3)->tB σ H2 R) (h:∀ H3,aE H H3->Q (a && b) H3):aDw tA tB σ H Q:=by
 refine hA _ fun H2 s2=>?_
 cases a with
 | false=>exact cE (h H2 s2)
 | true=>exact eR (hB H2 s2 rfl _ fun H3 s3=>h H3 (s2.trans s3))
theorem lA {n:Int} {rs:List Int} (h:eC n rs) (x:Int):0<=rs.getD x.toNat 0/\rs.getD x.toNat 0 < 1000000:=by
 rw [Bc]
 cases q:rs[x.toNat]? with
 | none=>exact ⟨Dm _,by decide⟩
 | some r=>have:=h.2 r (Ah q); exact ⟨this.1,by show r < 1000000; omega⟩
def sF (ws:List (List Int)) (rs ls:List Int):Int:=(((ws.filter fun l=>l.all fun h=>ls.any (·==h)).length:Nat):Int) - bE (ls.map fun h=>rs.getD h.toNat 0)
def oT (n:Int) (ws:List (List Int)) (rs ls:List Int) (m:Int):Bool:=(ls.isEmpty || cB n (bF ls)) && decide (m<=sF ws rs ls)
def aAW (K:PySem.W.Frag):Sp:=fun vs H Q _=>∃ (x:V) (q p:Addr) (n:Int) (ws:List (List Int)) (rs ls:List Int) (m:Int),vs = [x,.ref q,.ref p,.int m]/\Den K H (bD n ws) x/\bU (bD n ws)=true/\SqT K H q (rs.map V.int)/\eC n rs/\SqT K H p (ls.map V.int)/\ls.length<=20/\∀ H',aE H H'->Q (.bl (oT n ws rs ls m)) H'
theorem aAX:FnScope ["book", "rooms", "some", "number", "alone"] ["book", "rooms", "some", "number"] (aH oN):=⟨rfl,rfl,rfl,by decide +kernel,rfl,by decide +kernel,by decide +kernel⟩
theorem aDd {f fN fI:Addr} {fd dN dI:FuncData} (G:Fn K mg "do_bar" oN ["book", "rooms", "some", "number"] f fd) (B:Bl mg) (R:Pr K mg fW fH fK fB fNB fD fND fL dW dH dK dB dNB dD dND dL) (GNr:Fn K mg "need_rooms" mP ["book", "rooms"] fN dN) (ONr:FnOk P w K mg base CX0 6 fN dN ["book", "rooms"] (nV K)) (GWi:Fn K mg "is_within" lI ["able", "some"] fI dI):FnOk P w K mg base CX0 7 f fd ["book", "rooms", "some", "number"] (aAW K):=by
 have OW:FnOk P w K mg base CX0 1 fW dW ["thing"] (iS K):=iI R.W B
 have OKw:FnOk P w K mg base CX0 2 fK dK ["hands", "thing"] (vS K):=xS R.Kw B R.W
 have OWi:FnOk P w K mg base CX0 1 fI dI ["able", "some"] (yH K):=aBM GWi B
 refine G.fn.ok aAX (fun vs H Q E h=>?_) (fun cdv A outer s H vs Q E hr h=>?_)
 ·obtain ⟨x,q,p,n,ws,rs,ls,m,rfl,_⟩:=h
  rfl
 ·obtain ⟨x,q,p,n,ws,rs,ls,m,rfl,hx,hb,hq,hro,hp,hl20,k⟩:=h
  have r6:Room 6 _:=hr
  have r2:Room 2 _:=hr.mono (by decide)
  have r1:Room 1 _:=hr.mono (by decide)
  refine ⟨_,(aD (dZ (aW GNr ONr r6 rfl (aA (pv 0) (aA (pv 1) aC))))
  (aD (bJ (PW.pt (eM (bZ (bW (aW R.W OW r1 rfl (aA (pv 3) aC)))) (dP (PW.pt (jL (aL (zE hr.u64) (pv 2) (bX aC) (aN _)) (iN (bZ (bW (aW R.Kw OKw r2 rfl (aA (bA bK (pv 0) aG (fun _ _=>rfl)) (aA (pv 2) aC)))))))))))
   (aF (aQ dM))
   aT)
  (aD (aV (i:=4) aAX.nd rfl (Or.inl rfl) (aK aM rfl B.len cY (aA (bO (own:=["able"]) (fr:=[2]) (frn:=["some"]) (aU (aH oN) ["book", "rooms", "some", "number", "alone"] rfl rfl (by decide +kernel)) rfl (eA (bA bK (pv 0) aG (fun _ _=>rfl)))
    (fun _ _ _ _=>(aI (i:=0) (show (["able", "some"]:List Str).Nodup by decide +kernel) rfl (Or.inl rfl))) (fun _ _ _ _=>iW (bW (aW GWi OWi r1 rfl (aA (pv 0) (aA (pv 1) aC)))))
    (fun _ _ _ _=>(pv 0))) aC)))
  (aF (aQ (fJ qI (bC mI (pv 4) (aK (wR rfl) rfl B.sum aEu (aA (bO (own:=["hand"]) (fr:=[1]) (frn:=["rooms"]) (aU (aH oN) ["book", "rooms", "some", "number", "alone"] rfl rfl (by decide +kernel)) rfl (eA (pv 2))
    (fun _ _ _ _=>(aI (i:=0) (show (["hand", "rooms"]:List Str).Nodup by decide +kernel) rfl (Or.inl rfl))) (fun _ _ _ _=>cT)
    (fun _ _ _ _=>(bA (jQ (K:=K) rfl) (pv 1) (pv 0) (fun _ _=>rfl)))) aC))) (pv 3) (aN _))))))),?_⟩
  obtain ⟨hn1,hn6,hw12,hws⟩:=bG hb
  refine ⟨_,rfl,_,rfl,x,q,n,ws,rs,rfl,hx,hb,hq,hro,fun H1 s1=>?_⟩
  obtain ⟨a,b,ys,rfl,ha,hb2,hys⟩:=cR (s1.den _ _ hx)
  have hlw:=aP hys
  rw [Ac] at hlw
  have hp1:=s1.seqT hp
  have hq1:=s1.seqT hq
  refine ⟨_,rfl,.int m,.int m,rfl,cS.mpr rfl,_,rfl,?_⟩
  refine cE ?_
  refine aDc (!ls.isEmpty) (!cB n (bF ls)) (fun R hR=>?_) (fun H2 s2 _ R hR=>?_) (fun H3 s3=>?_)
  ·refine ⟨_,rfl,cZ (Bo _),fun z hz=>⟨.tuple (ls.map .int),.tuple (([]:List Int).map .int),aX.mpr ⟨p,rfl,(aE.new hz).seqT hp1⟩,aX.mpr ⟨z,rfl,SqT.of aB⟩,jR _,jR _,nQ _,nQ _,_,rfl,?_⟩⟩
   rw [uA,show decide (ls = [])=ls.isEmpty by cases ls <;> rfl]
   exact hR _ (aE.new hz)
  ·exact ⟨_,rfl,a,_,0,.int n,rfl,rfl,s2.seqT ha,rfl,_,rfl,n,.ref p,bF ls,rfl,aX.mpr ⟨p,rfl,s2.seqT hp1⟩,_,rfl,hR _ (aE.refl _)⟩
  ·have hp3:=s3.seqT hp1
   have hq3:=s3.seqT hq1
   refine cF (fun c=>?_) (fun c=>?_)
   ·have e:oT n ws rs ls m=false:=by
     unfold oT
     simp only [Az,Bool.not_eq_true'] at c
     rw [c.1,c.2]; rfl
    rw [e] at k
    exact k _ (s1.trans s3)
   have hok:(ls.isEmpty || cB n (bF ls))=true:=by
    cases h1:ls.isEmpty <;> cases h2:cB n (bF ls) <;> simp [h1,h2] at c ⊢
   have hin:∀ h∈ls,0<=h/\h < n:=fun h hh=>by
    rw [Fv] at hok
    rcases hok with z | z
    ·cases ls with
     | nil=>cases hh
     | cons _ _=>cases z
    ·exact (bL z).2.1 h hh
   refine ⟨_,rfl,a,_,1,.ref b,rfl,rfl,s3.seqT ha,rfl,b,rfl,⟨_,s3.seqT hb2⟩,gA (K:=K) (a:=b) (xs:=ys) (fun σ=>∃ v,σ = [v,some (.ref p)]) (fun i zs H4=>aE H3 H4/\zs.length=((ws.take i).filter fun l=>l.all fun h=>ls.any (·==h)).length) (cZ (by omega)) ⟨none,rfl⟩ ⟨aE.refl _,rfl⟩ ?_ ?_ ?_ ?_⟩
   ·rintro i zs H4 ⟨_,hz⟩
    rw [hz]
    exact At (Cw _ _) (by rw [Ax]; omega)
   ·rintro i zs H4 ⟨s4,_⟩
    exact (s3.trans s4).seqT hb2
   ·rintro i zs σ u H4 hu ⟨v0,rfl⟩ ⟨s4,hzl⟩ hz
    obtain ⟨dv,hdv,denv⟩:=cQ hys hu
    rw [Af] at hdv
    obtain ⟨l,hl,rfl⟩:∃ l,ws[i]?=some l/\bF l=dv:=by
     cases q:ws[i]? with
     | none=>rw [q] at hdv; cases hdv
     | some l=>rw [q] at hdv; exact ⟨l,rfl,Option.some.inj hdv⟩
    obtain ⟨aw,rfl,haw⟩:=aX.mp denv
    obtain ⟨w1,w2,w3⟩:=bL (hws l (Ah hl))
    have hl6:=eQ (by omega) w2 w3
    have etake:ws.take (i+1)=ws.take i++[l]:=by rw [Bm,hl]; rfl
    refine ⟨_,rfl,_,rfl,aw,p,l,ls,rfl,(s3.trans s4).seqT haw,s4.seqT hp3,by omega,fun H5 s5=>⟨_,rfl,?_⟩⟩
    refine cF (fun c=>?_) (fun c=>?_)
    ·refine ⟨_,rfl,hz,⟨_,rfl⟩,s4.trans s5,?_⟩
     rw [etake,Bu,Aq,Aq,hzl]
     congr 1
     rw [Cd (p:=fun l:List Int=>l.all fun h=>ls.any (·==h)) (a:=l) (l:=[]) c]; rfl
    ·refine ⟨⟨_,rfl⟩,s4.trans s5,?_⟩
     rw [etake,Bu,Aq,hzl,Ce (p:=fun l:List Int=>l.all fun h=>ls.any (·==h)) (a:=l) (l:=[]) c]; rfl
   ·rintro zs H4 ⟨s4,hzl⟩ z hz
    rw [hlw,Bv] at hzl
    have s5:=s4.trans (aE.new (o:=.lst zs) hz)
    refine ⟨z,_,rfl,.inl (SqL.of aB),?_⟩
    rw [hzl]
    generalize upd H4 z (.lst zs)=H5 at s5 ⊢
    have hp5:=s5.seqT hp3
    have hq5:=s5.seqT hq3
    refine ⟨_,rfl,_,rfl,p,rfl,⟨_,hp5⟩,iF (K:=K) (a:=p) (xs:=ls.map V.int) (vs:=(ls.map fun h=>rs.getD h.toNat 0).map V.int) (fun σ=>∃ v,σ = [v,some (.ref q)]) (by rw [Ac]; omega) (by rw [Ac,Ac,Ac]) hp5 ⟨none,rfl⟩ ?_ ?_⟩
    ·rintro i xv v σ H6 hxv hv ⟨v0,rfl⟩ s6 Q' hQ'
     obtain ⟨h,hh,rfl⟩:=kZ hxv
     obtain ⟨h0,h1⟩:=hin h (Ah hh)
     have ev:v=V.int (rs.getD h.toNat 0):=by
      rw [Af,Af,hh] at hv
      exact (Option.some.inj hv).symm
     have hlt:h.toNat < rs.length:=by rw [hro.1]; omega
     have hat:atI (rs.map V.int) h=some (.int (rs.getD h.toNat 0)):=by
      have e:=dJ (xs:=rs.map V.int) (j:=h.toNat) (v:=.int (rs.getD h.toNat 0)) (by rw [Af,Bc,Ae hlt]; rfl)
      rwa [show ((h.toNat:Nat):Int)=h by omega] at e
     refine ⟨_,rfl,_,rfl,q,_,h,_,rfl,rfl,s6.seqT hq5,hat,?_⟩
     rw [ev] at hQ'
     exact hQ' _ _ ⟨_,rfl⟩ (aE.refl _)
    ·rintro H6 s6 z2 hz2
     refine ⟨z2,ls.map fun h=>rs.getD h.toNat 0,rfl,SqL.of aB,fun y hy=>?_,by rw [Ac]; omega,_,_,rfl,rfl,_,rfl,_,_,rfl,rfl,?_⟩
     ·obtain ⟨h,_,rfl⟩:=Bd.mp hy
      exact lA hro h
     ·have e:oT n ws rs ls m=decide (m<=sF ws rs ls):=by unfold oT; rw [hok,Ck]
      rw [e] at k
      exact k _ ((s1.trans s3).trans (s5.trans (s6.trans (aE.new hz2))))
def iK:PyData->List Int->Bool
 | .none,_=>true
 | .int i,l=>l.any (·==i)
 | _,_=>false
def mE:PyData->Option Int
 | .int i=>some i
 | _=>none
def sG (os:List (Option Int)) (rs:List Int):Bool:=(List.range rs.length).all fun i=>decide (((os.count (some (i:Int)):Nat):Int)<=rs.getD i 0)
def gW (ws:List (List Int)) (rs:List Int):PyData->Bool
 | .tuple ds=>decide (ds.length=ws.length) && ((ds.zip ws).all (fun p=>iK p.1 p.2) && sG (ds.map mE) rs)
 | _=>false
theorem aDe:∀ {K:PySem.W.Frag} {H:Hp} {ds:List PyData} {xs:List V},aZ K H ds xs->(∀ d∈ds,d=.none∨∃ i,d=.int i)->xs=(ds.map mE).map oV
 | K,H,[],xs,h,_=>by rw [aY.mp h]; rfl
 | K,H,d::ds,xs,h,hd=>by
  obtain ⟨x,r,rfl,h1,h2⟩:=aS.mp h
  rw [aDe h2 fun e he=>hd e (Av _ he)]
  rcases hd d (Ao ..) with rfl | ⟨i,rfl⟩
  ·rw [kL.mp h1]; rfl
  ·rw [cS.mp h1]; rfl
def aEx (K:PySem.W.Frag):Sp:=fun vs H Q _=>∃ (x:V) (q:Addr) (y:V) (n:Int) (ws:List (List Int)) (rs:List Int) (d:PyData),vs = [x,.ref q,y]/\Den K H (bD n ws) x/\bU (bD n ws)=true/\SqT K H q (rs.map V.int)/\eC n rs/\Den K H d y/\∀ H',aE H H'->Q (.bl (gW ws rs d)) H'
theorem aDf:FnScope ["book", "rooms", "thing", "hand", "able"] ["book", "rooms", "thing"] (aH kQ):=⟨rfl,rfl,rfl,by decide +kernel,rfl,by decide +kernel,by decide +kernel⟩
theorem aFb {f fN:Addr} {fd dN:FuncData} (G:Fn K mg "is_in_rooms" kQ ["book", "rooms", "thing"] f fd) (B:Bl mg) (R:Pr K mg fW fH fK fB fNB fD fND fL dW dH dK dB dNB dD dND dL) (GNr:Fn K mg "need_rooms" mP ["book", "rooms"] fN dN) (ONr:FnOk P w K mg base CX0 6 fN dN ["book", "rooms"] (nV K)):FnOk P w K mg base CX0 7 f fd ["book", "rooms", "thing"] (aEx K):=by
 have OW:FnOk P w K mg base CX0 1 fW dW ["thing"] (iS K):=iI R.W B
 refine G.fn.ok aDf (fun vs H Q E h=>?_) (fun cdv A outer s H vs Q E hr h=>?_)
 ·obtain ⟨x,q,y,n,ws,rs,d,rfl,_⟩:=h
  rfl
 ·obtain ⟨x,q,y,n,ws,rs,d,rfl,hx,hb,hq,hro,hd,k⟩:=h
  have r6:Room 6 _:=hr
  have r1:Room 1 _:=hr.mono (by decide)
  refine ⟨_,(aD (dZ (aW GNr ONr r6 rfl (aA (pv 0) (aA (pv 1) aC))))
  (aD (bJ (PW.pt (eM (bZ (bW (aK bQ rfl B.isinstance iG (aA (pv 2) (aA (dY (v:=.ty "tuple") rfl B.tuple bT rfl) aC))))) (dP (aL iZ (aK aM rfl B.len cY (aA (pv 2) aC)) (aK aM rfl B.len cY (aA (bA bK (pv 0) aG (fun _ _=>rfl)) aC)) (aN _)))))
   (aF (aQ dM))
   aT)
  (aD (eU PassesOwn.never rfl (uX .t .t rfl B.zip (aA (pv 2) (aA (bA bK (pv 0) aG (fun _ _=>rfl)) aC))) (eG rfl (aO (aI (i:=3) aDf.nd rfl (Or.inl rfl)) (aO (aI (i:=4) aDf.nd rfl (Or.inl rfl)) cH)))
   (aF (bJ (PW.pt (jL (aL pQ (pv 3) eF (aN _)) (iN (bZ (PW.pt (jL (bW (aW R.W OW r1 rfl (aA (pv 3) aC))) (iN (aL lE (pv 3) (pv 4) (by with_unfolding_all rfl)))))))))
   (aF (aQ dM))
   aT)))
  (aF (aQ (aK (eW rfl) rfl B.all lZ (aA (bO (own:=["hand", "room"]) (fr:=[2]) (frn:=["thing"]) (aU (aH kQ) ["book", "rooms", "thing", "hand", "able"] rfl rfl (by decide +kernel)) rfl (aDK .t rfl B.enumerate (aA (pv 1) aC))
    (fun _ _ _ _=>(vU (K:=K) (n:=2) rfl rfl (aO (aI (i:=0) (show (["hand", "room", "thing"]:List Str).Nodup by decide +kernel) rfl (Or.inl rfl)) (aO (aI (i:=1) (show (["hand", "room", "thing"]:List Str).Nodup by decide +kernel) rfl (Or.inl rfl)) cH)))) (fun _ _ _ _=>cT)
    (fun _ _ _ _=>(fJ qH (zU (K:=K) rfl PySem.F.plainAttrs_tuple PySem.F.slot_tuple_count PySem.F.type_tuple_count (zK (K:=K) rfl) (pv 2) (aA (pv 0) aC)) (pv 1) (aN _)))) aC))))))),?_⟩
  obtain ⟨hn1,hn6,hw12,hws⟩:=bG hb
  refine ⟨_,rfl,_,rfl,x,q,n,ws,rs,rfl,hx,hb,hq,hro,fun H1 s1=>?_⟩
  obtain ⟨a,b,ys,rfl,ha,hb2,hys⟩:=cR (s1.den _ _ hx)
  have hlw:=aP hys
  rw [Ac] at hlw
  have hd1:=s1.den _ _ hd
  have hq1:=s1.seqT hq
  refine ⟨_,rfl,y,iX d,rfl,hd1.kd,_,rfl,?_⟩
  refine cF (fun c=>?_) (fun c=>?_)
  ·refine eR ?_
   have e:false=gW ws rs d:=by cases d <;> first | rfl | (exfalso; simp [iX] at c)
   rw [<- e] at k; exact k H1 s1
  obtain ⟨hs,rfl⟩:∃ hs,d=.tuple hs:=by cases d <;> first | exact ⟨_,rfl⟩ | (exfalso; simp [iX] at c)
  obtain ⟨a2,xs,rfl,ha2,hxs⟩:=bV.mp hd1
  have hlx:=aP hxs
  refine ⟨_,rfl,a2,xs,rfl,.inr ha2,_,rfl,a,_,1,.ref b,rfl,rfl,ha,rfl,b,ys,rfl,.inr hb2,rfl,_,rfl,?_⟩
  refine cF (fun c2=>?_) (fun c2=>?_)
  ·have e:gW ws rs (.tuple hs)=false:=by
    show (decide (hs.length=ws.length) && _)=false
    rw [decide_eq_false]
    ·rfl
    ·intro z
     have:(V.int (xs.length:Int)=V.int (ys.length:Int)):=by rw [hlx,hlw,z]
     simp [this] at c2
   rw [e] at k; exact k H1 s1
  have heq:xs.length=ys.length:=by
   have:V.int (xs.length:Int)=V.int (ys.length:Int):=by simpa using c2
   injection this with this
   omega
  have hfalse:∀ (i:Nat) du l,hs[i]?=some du->ws[i]?=some l->iK du l=false->gW ws rs (.tuple hs)=false:=fun i du l h1 h2 h3=>by
   have e:(hs.zip ws).all (fun p=>iK p.1 p.2)=false:=by
    rw [<- Dy,Bf]
    intro z
    have:=z (du,l) (Ah (i:=i) (by rw [By]; exact ⟨h1,h2⟩))
    rw [h3] at this; cases this
   show (_ && (_ && _))=false
   rw [e,Gi,Dp]
  refine ⟨_,rfl,_,rfl,a,_,1,.ref b,rfl,rfl,ha,rfl,a2,b,_,_,rfl,ha2,hb2,aAy (K:=K) (k1:=.t) (k2:=.t) (a:=a2) (b:=b) (xs:=xs) (ys:=ys) (fun i σ H3=>(∃ v3 v4,σ = [some (.ref a),some (.ref q),some (.ref a2),v3,v4])/\aE H1 H3/\∀ (j:Nat) du l,j < i->hs[j]?=some du->ws[j]?=some l->iK du l=true)
   heq ⟨⟨_,_,rfl⟩,aE.refl _,fun j _ _ hj=>absurd hj (Db _)⟩ (fun i σ H3 _ ⟨_,s3,_⟩=>⟨s3.seqT ha2,s3.seqT hb2⟩) ?_ ?_⟩
  ·rintro i u v t σ H3 hu hv ⟨⟨v3,v4,rfl⟩,s3,hall⟩ ht
   obtain ⟨du,hdu,denu⟩:=cQ hxs hu
   obtain ⟨dv,hdv,denv⟩:=cQ hys hv
   rw [Af] at hdv
   obtain ⟨l,hl,rfl⟩:∃ l,ws[i]?=some l/\bF l=dv:=by
    cases q:ws[i]? with
    | none=>rw [q] at hdv; cases hdv
    | some l=>rw [q] at hdv; exact ⟨l,rfl,Option.some.inj hdv⟩
   obtain ⟨aw,rfl,haw⟩:=aX.mp denv
   have s4:=s3.trans (aE.new (o:=.tup [u,.ref aw]) ht)
   have et:upd H3 t (.tup [u,.ref aw]) t=some (.tup [u,.ref aw]):=aB
   generalize upd H3 t (.tup [u,.ref aw])=H4 at s4 et ⊢
   have next:iK du l=true->∀ (j:Nat) du l,j < i+1->hs[j]?=some du->ws[j]?=some l->iK du l=true:=fun h j du' l' hj h1 h2=>by
    by_cases z:j=i
    ·subst z
     rw [hdu] at h1; rw [hl] at h2
     rw [<- Option.some.inj h1,<- Option.some.inj h2]; exact h
    ·exact hall j du' l' (by omega) h1 h2
   refine ⟨t,_,rfl,SqT.of et,rfl,_,_,rfl,_,_,rfl,rfl,?_⟩
   refine ⟨_,rfl,rfl,_,rfl,?_⟩
   by_cases hnon:du=.none
   ·subst hnon
    obtain rfl:=kL.mp denu
    refine cE ?_
    refine cE ?_
    exact ⟨⟨_,_,rfl⟩,s4,next rfl⟩
   ·have hun:u≠.non:=fun z=>by
     subst z
     cases du <;> first | exact hnon rfl | (simp [Den] at denu) | (cases denu)
    rw [decide_eq_false hun]
    refine eR ?_
    refine ⟨_,rfl,u,du,rfl,s4.den _ _ denu,_,rfl,?_⟩
    refine cF (fun c3=>?_) (fun c3=>?_)
    ·obtain ⟨j,rfl⟩:∃ j,du=.int j:=by cases du <;> first | exact ⟨_,rfl⟩ | (exfalso; simp [fM] at c3)
     obtain rfl:=cS.mp denu
     refine ⟨_,rfl,_,rfl,aw,_,rfl,.inr (s4.seqT haw),rfl,iB l,_,rfl,?_⟩
     cases hany:l.any (·==j) with
     | true =>
      rw [(jP j l).trans hany]
      refine cE ?_
      exact ⟨⟨_,_,rfl⟩,s4,next hany⟩
     | false =>
      rw [(jP j l).trans hany]
      refine eR ?_
      rw [hfalse i _ l hdu hl hany] at k
      exact k _ (s1.trans s4)
    ·have e:iK du l=false:=by cases du <;> first | rfl | exact absurd rfl hnon | (exfalso; simp [fM] at c3)
     refine eR ?_
     rw [hfalse i _ l hdu hl e] at k
     exact k _ (s1.trans s4)
  ·rintro σ H3 ⟨⟨v3,v4,rfl⟩,s3,hall⟩
   have hlen:hs.length=ws.length:=by omega
   have each:∀ d∈hs,d=.none∨∃ i,d=.int i:=fun d hd=>by
    obtain ⟨j,hj⟩:=Bb.mp hd
    have hjl:=(Ad.mp hj).1
    have:=hall j d _ (by omega) hj (Ae (show j < ws.length by omega))
    cases d <;> first | exact .inl rfl | exact .inr ⟨_,rfl⟩ | cases this
   have exs:=aDe hxs each
   have hallT:(hs.zip ws).all (fun p=>iK p.1 p.2)=true:=by
    rw [Bf]
    intro p hp
    obtain ⟨j,hj⟩:=Bb.mp hp
    rw [By] at hj
    have hjl:=(Ad.mp hj.1).1
    exact hall j _ _ (by omega) hj.1 hj.2
   have ek:gW ws rs (.tuple hs)=sG (hs.map mE) rs:=by
    show (decide (hs.length=ws.length) && (_ && _))=_
    rw [decide_eq_true hlen,hallT,Ck,Ck]
   rw [ek] at k
   refine ⟨_,rfl,q,_,rfl,s3.seqT hq1,aCI (K:=K) (k:=.t) (a:=q) (xs:=rs.map V.int) (vs:=((List.range rs.length).map fun i=>decide ((((hs.map mE).count (some ((i:Nat):Int)):Nat):Int)<=rs.getD i 0)).map V.bl) (fun σ=>∃ v0 v1,σ = [v0,v1,some (.ref a2)]) (by rw [Ac,hro.1]; omega) (by rw [Ac,Ac,Co,Ac]) (fun H' s'=>(s3.trans s').seqT hq1) ⟨none,none,rfl⟩ ?_ ?_⟩
   ·rintro i xv v t σ H5 hxv hv ht ⟨v0,v1,rfl⟩ s5 Q' hQ'
    obtain ⟨r,hr',rfl⟩:=kZ hxv
    have hil:=(Ad.mp hr').1
    have er:rs.getD i 0=r:=by rw [Bc,hr']; rfl
    have ev:v=V.bl (decide ((((hs.map mE).count (some ((i:Nat):Int)):Nat):Int)<=r)):=by
     rw [Af,Af,Dc hil] at hv
     rw [<- er]
     exact (Option.some.inj hv).symm
    have sq:=((s3.trans s5).trans (aE.new (o:=.tup [.int (i:Nat),.int r]) ht)).seqT ha2
    have st:=aE.new (o:=.tup [.int (i:Nat),.int r]) ht
    rw [exs] at sq
    refine ⟨t,_,rfl,SqT.of aB,rfl,_,_,rfl,_,_,rfl,rfl,?_⟩
    refine ⟨_,rfl,.inr (.inl ⟨rfl,_,sq⟩),_,rfl,a2,hs.map mE,_,rfl,rfl,sq,_,rfl,_,_,rfl,rfl,?_⟩
    rw [ev] at hQ'
    exact hQ' _ _ ⟨_,_,rfl⟩ st
   ·rintro H5 s5 z hz
    refine ⟨z,_,rfl,SqL.of aB,?_⟩
    rw [Du]
    exact k _ ((s1.trans s3).trans (s5.trans (aE.new hz)))
end
def iL (rs:List Int) (os:List (Option Int)):List Int:=(List.range rs.length).map fun i=>rs.getD i 0 - ((os.count (some (i:Int)):Nat):Int)
theorem gI (rs:List Int) (os:List (Option Int)):(iL rs os).length=rs.length:=by unfold iL; rw [Ac,Co]
theorem lB {rs:List Int} {os:List (Option Int)} {i:Nat} (h:i < rs.length):(iL rs os)[i]?=some (rs.getD i 0 - ((os.count (some (i:Int)):Nat):Int)):=by
 unfold iL
 rw [Af,Dc h]; rfl
theorem aBN (rs:List Int):iL rs []=rs:=by
 apply Dh
 intro i
 by_cases h:i < rs.length
 ·rw [lB h,Bc,Ae h]
  simp
 ·rw [Ch (by rw [gI]; omega),Ch (by omega)]
theorem aAh (rs:List Int) (os:List (Option Int)):iL rs (os++[none])=iL rs os:=by
 unfold iL
 refine Dz fun i _=>?_
 rw [Cz]
 simp
theorem aAi {rs:List Int} {os:List (Option Int)} {j:Int} (h0:0<=j) (h1:j < rs.length):iL rs (os++[some j])=(iL rs os).set j.toNat (rs.getD j.toNat 0 - ((os.count (some j):Nat):Int) - 1):=by
 have ej:((j.toNat:Nat):Int)=j:=by omega
 apply Dh
 intro i
 by_cases h:i < rs.length
 ·rw [lB h,Di,Cz]
  by_cases z:j.toNat=i
  ·subst z
   rw [if_pos rfl,if_pos (by rw [gI]; exact h),ej]
   congr 1
   simp
   omega
  ·rw [if_neg z,lB h]
   have:¬ j=(i:Int):=by omega
   simp [this]
 ·rw [Ch (by rw [gI]; omega),Ch (by rw [Cp,gI]; omega)]
section
variable {P:Program} {w:World} {K:PySem.W.Frag} {mg:Str->Option Value} {base:Heap}
def sH (K:PySem.W.Frag):Sp:=fun vs H Q _=>∃ i:Int,vs = [.int i]/\Q (.bl true) H
theorem aDg:FnScope ["thing"] ["thing"] (aH nO):=⟨rfl,rfl,rfl,by decide +kernel,rfl,by decide +kernel,by decide +kernel⟩
theorem uH {f:Addr} {fd:FuncData} (G:Fn K mg "_law_b_number" nO ["thing"] f fd) (B:Bl mg):FnOk P w K mg base CX0 1 f fd ["thing"] (sH K):=by
 refine G.fn.ok aDg (fun vs H Q E h=>?_) (fun cdv A outer s H vs Q E hr h=>?_)
 ·obtain ⟨i,rfl,_⟩:=h
  rfl
 ·obtain ⟨i,rfl,k⟩:=h
  refine ⟨_,(aF (aQ (kC (aK nG rfl B.isinstance iG (aA (pv 0) (aA (dY (v:=.ty "int") rfl B.int aEt rfl) aC))) (kB (aBW (aK lU rfl B.isinstance iG (aA (pv 0) (aA (dY (v:=.ty "bool") rfl B.bool aCN rfl) aC)))))))),?_⟩
  have kd:=(cS (K:=K) (H:=H) (i:=i)|>.mpr rfl).kd
  refine ⟨_,rfl,.int i,.int,rfl,kd,_,rfl,?_⟩
  refine eR ?_
  exact ⟨_,rfl,.int i,.int,rfl,kd,_,rfl,k⟩
def aFc (ws:List (List Int)) (rs:List Int) (os:List (Option Int)):Prop:=os.length=ws.length/\(∀ (j:Nat) (h:Int) (l:List Int),os[j]?=some (some h)->ws[j]?=some l->h∈l)/\∀ i,i < rs.length->((os.count (some (i:Int)):Nat):Int)<=rs.getD i 0
def aAY (K:PySem.W.Frag):Sp:=fun vs H Q _=>∃ (x:V) (q p:Addr) (n:Int) (ws:List (List Int)) (rs:List Int) (os:List (Option Int)),vs = [x,.ref q,.ref p]/\Den K H (bD n ws) x/\bU (bD n ws)=true/\SqT K H q (rs.map V.int)/\eC n rs/\SqT K H p (os.map oV)/\aFc ws rs os/\∀ H',aE H H'->Q (.bl true) H'
theorem qD:FnScope ["book", "rooms", "deal", "counts", "one", "able"] ["book", "rooms", "deal"] (aH rG):=⟨rfl,rfl,rfl,by decide +kernel,rfl,by decide +kernel,by decide +kernel⟩
theorem aDh {f fN:Addr} {fd dN:FuncData} (G:Fn K mg "_law_b_is_dealt" rG ["book", "rooms", "deal"] f fd) (B:Bl mg) (GNu:Fn K mg "_law_b_number" nO ["thing"] fN dN):FnOk P w K mg base CX0 2 f fd ["book", "rooms", "deal"] (aAY K):=by
 have ONu:FnOk P w K mg base CX0 1 fN dN ["thing"] (sH K):=uH GNu B
 refine G.fn.ok qD (fun vs H Q E h=>?_) (fun cdv A outer s H vs Q E hr h=>?_)
 ·obtain ⟨x,q,p,n,ws,rs,os,rfl,_⟩:=h
  rfl
 ·obtain ⟨x,q,p,n,ws,rs,os,rfl,hx,hb,hq,hro,hp,⟨hol,hoa,hof⟩,k⟩:=h
  have r1:Room 1 _:=hr
  refine ⟨_,(aD (bJ (PW.pt (eM (bZ (bW (aK bQ rfl B.isinstance iG (aA (pv 2) (aA (dY (v:=.ty "tuple") rfl B.tuple bT rfl) aC))))) (dP (aL iZ (aK aM rfl B.len cY (aA (pv 2) aC)) (aK aM rfl B.len cY (aA (bA bK (pv 0) aG (fun _ _=>rfl)) aC)) (aN _)))))
   (aF (aQ dM))
   aT)
  (aD (aV (i:=3) qD.nd rfl (Or.inl rfl) (bH jO rfl B.list vO (aA (pv 1) aC)))
  (aD (eU PassesOwn.never rfl (uX .t .t rfl B.zip (aA (pv 2) (aA (bA bK (pv 0) aG (fun _ _=>rfl)) aC))) (eG rfl (aO (aI (i:=4) qD.nd rfl (Or.inl rfl)) (aO (aI (i:=5) qD.nd rfl (Or.inl rfl)) cH)))
   (aF (bJ (aL pQ (pv 4) eF (aN _))
   (aD (bJ (PW.pt (eM (bZ (bW (aW GNu ONu r1 rfl (aA (pv 4) aC)))) (dP (aL nF (pv 4) (pv 5) (by with_unfolding_all rfl)))))
   (aF (aQ dM))
   aT)
  (aF (fZ (bC mI (bA cI (pv 3) (pv 4) (fun _ _=>rfl)) aG) (oA (pv 3) (pv 4) jA))))
   aT)))
  (aF (aQ (aK (eW rfl) rfl B.all lZ (aA (bO (own:=["left"]) (fr:=[]) (frn:=[]) (aU (aH rG) ["book", "rooms", "deal", "counts", "one", "able"] rfl rfl (by decide +kernel)) rfl (gJ (pv 3))
    (fun _ _ _ _=>(aI (i:=0) (show (["left"]:List Str).Nodup by decide +kernel) rfl (Or.inl rfl))) (fun _ _ _ _=>cT)
    (fun _ _ _ _=>(fJ qI (pv 0) aG (aN _)))) aC))))))),?_⟩
  obtain ⟨hn1,hn6,hw12,hws⟩:=bG hb
  obtain ⟨a,b,ys,rfl,ha,hb2,hys⟩:=cR hx
  have hlw:=aP hys
  rw [Ac] at hlw
  refine ⟨_,rfl,.ref p,.tup,rfl,.inr (.inl ⟨rfl,_,hp⟩),_,rfl,?_⟩
  refine cE ?_
  refine ⟨_,rfl,p,_,rfl,.inr hp,_,rfl,a,_,1,.ref b,rfl,rfl,ha,rfl,b,_,rfl,.inr hb2,rfl,_,rfl,?_⟩
  rw [show (!decide (V.int ((os.map oV).length:Int)=V.int (ys.length:Int)))=false by rw [Ac,hol,hlw]; simp]
  refine cE ?_
  refine ⟨_,rfl,q,_,rfl,.inr hq,fun cp hcp=>?_⟩
  have s2:=aE.new (o:=.lst (rs.map V.int)) hcp
  have e2:upd H cp (.lst (rs.map V.int)) cp=some (.lst (rs.map V.int)):=aB
  generalize upd H cp (.lst (rs.map V.int))=H2 at s2 e2 ⊢
  refine ⟨_,rfl,_,rfl,a,_,1,.ref b,rfl,rfl,s2.seqT ha,rfl,p,b,_,_,rfl,s2.seqT hp,s2.seqT hb2,aAy (K:=K) (k1:=.t) (k2:=.t) (a:=p) (b:=b) (xs:=os.map oV) (ys:=ys) (fun i σ H3=>(∃ v4 v5,σ = [some (.ref a),some (.ref q),some (.ref p),some (.ref cp),v4,v5])/\aE H H3/\H3 cp=some (.lst ((iL rs (os.take i)).map V.int)))
   (by rw [Ac]; omega) ⟨⟨_,_,rfl⟩,s2,by rw [Em,aBN]; exact e2⟩ (fun i σ H3 _ ⟨_,s3,_⟩=>⟨s3.seqT hp,s3.seqT hb2⟩) ?_ ?_⟩
  ·rintro i u v t σ H3 hu hv ⟨⟨v4,v5,rfl⟩,s3,e3⟩ ht
   rw [Af] at hu
   obtain ⟨o,ho,rfl⟩:∃ o,os[i]?=some o/\oV o=u:=by
    cases q:os[i]? with
    | none=>rw [q] at hu; cases hu
    | some o=>rw [q] at hu; exact ⟨o,rfl,Option.some.inj hu⟩
   obtain ⟨dv,hdv,denv⟩:=cQ hys hv
   rw [Af] at hdv
   obtain ⟨l,hl,rfl⟩:∃ l,ws[i]?=some l/\bF l=dv:=by
    cases q:ws[i]? with
    | none=>rw [q] at hdv; cases hdv
    | some l=>rw [q] at hdv; exact ⟨l,rfl,Option.some.inj hdv⟩
   obtain ⟨aw,rfl,haw⟩:=aX.mp denv
   have st:=aE.new (o:=.tup [oV o,.ref aw]) ht
   have s4:=s3.trans st
   have e4:=st _ _ e3
   have et:upd H3 t (.tup [oV o,.ref aw]) t=some (.tup [oV o,.ref aw]):=aB
   generalize upd H3 t (.tup [oV o,.ref aw])=H4 at st s4 e4 et ⊢
   have etk:os.take (i+1)=os.take i++[o]:=by rw [Bm,ho]; rfl
   refine ⟨t,_,rfl,SqT.of et,rfl,_,_,rfl,_,_,rfl,rfl,?_⟩
   refine ⟨_,rfl,rfl,_,rfl,?_⟩
   cases o with
   | none =>
    refine cE ?_
    exact ⟨⟨_,_,rfl⟩,s4,by rw [etk,aAh]; exact e4⟩
   | some j =>
    have hjm:=hoa i j l ho hl
    obtain ⟨w1,w2,w3⟩:=bL (hws l (Ah hl))
    obtain ⟨j0,j1⟩:=w2 j hjm
    have hjr:j < rs.length:=by rw [hro.1]; omega
    refine eR ?_
    refine ⟨_,rfl,j,rfl,_,rfl,?_⟩
    refine cE ?_
    refine ⟨_,rfl,_,rfl,aw,_,rfl,.inr (s4.seqT haw),rfl,iB l,_,rfl,?_⟩
    have hany:l.any (·==j)=true:=Cj.mpr ⟨j,hjm,by simp⟩
    rw [show inV (oV (some j)) (l.map V.int)=true from (jP j l).trans hany]
    refine cE ?_
    have hat:atI ((iL rs (os.take i)).map V.int) j=some (.int (rs.getD j.toNat 0 - (((os.take i).count (some j):Nat):Int))):=by
     have e:=dJ (xs:=(iL rs (os.take i)).map V.int) (j:=j.toNat) (v:=.int (rs.getD j.toNat 0 - (((os.take i).count (some j):Nat):Int))) (by
      rw [Af,lB (show j.toNat < rs.length by omega),show ((j.toNat:Nat):Int)=j by omega]; rfl)
     rwa [show ((j.toNat:Nat):Int)=j by omega] at e
    refine ⟨_,rfl,_,rfl,cp,_,j,_,rfl,rfl,SqL.of e4,hat,_,_,rfl,rfl,_,rfl,_,rfl,cp,_,j,j.toNat,rfl,rfl,e4,?_,?_⟩
    ·exact aAa j0 (by rw [Ac,gI]; exact hjr)
    refine ⟨⟨_,_,rfl⟩,s4.wr hcp,?_⟩
    rw [aB,etk,aAi j0 hjr,Gd]
  ·rintro σ H3 ⟨⟨v4,v5,rfl⟩,s3,e3⟩
   rw [Ac,Bv] at e3
   refine ⟨_,rfl,cp,rfl,⟨_,SqL.of e3⟩,oF (K:=K) (a:=cp) (xs:=(iL rs os).map V.int) (fun σ=>∃ v,σ = [v]) (fun i zs H4=>H4=H3/\zs=(List.replicate i true).map V.bl) (cZ (by rw [Ac,gI,hro.1]; omega)) ⟨none,rfl⟩ ⟨rfl,rfl⟩ (fun i zs H4 z=>by rw [z.2,Ac,Bn]; exact Ai _) (fun i zs H4 z=>by rw [z.1]; exact SqL.of e3) ?_ ?_⟩
   ·rintro i zs σ u H4 hu ⟨v,rfl⟩ ⟨rfl,rfl⟩ hz
    obtain ⟨m,hm,rfl⟩:=nS hu
    have hir:i < rs.length:=by have:=(Ad.mp hm).1; rw [gI] at this; exact this
    rw [lB hir] at hm
    have hm0:m≥0:=by have:=hof i hir; have:=Option.some.inj hm; omega
    refine cW ?_
    refine ⟨_,rfl,_,_,rfl,rfl,hz,⟨_,rfl⟩,rfl,?_⟩
    show _++[V.bl (decide (m≥0))]=_
    rw [decide_eq_true hm0,Gh,Ay]
    rfl
   ·rintro zs H4 ⟨rfl,rfl⟩ z hz
    refine ⟨z,_,rfl,SqL.of aB,?_⟩
    have:((List.replicate ((iL rs os).map V.int).length true).all id)=true:=by
     rw [Bf]
     intro b hb
     rw [(List.mem_replicate.mp hb).2]; rfl
    rw [this]
    exact k _ (s3.trans (aE.new hz))
theorem uI (L:List (List Int)):cA (.tuple (L.map bF))=true:=by unfold cA; exact mC L
theorem uJ (L:List (List Int)):SeqAt.shaped (.tuple (L.map bF))=true:=by
 refine jG ?_ ?_
 ·unfold PyData.canLay0; exact iJ _ hU L
 ·unfold PyData.depth; exact At (Cs (jF _ kW L)) (by decide)
theorem aFd (L:List (List Int)):PyData.eqv (.tuple (L.map bF)) (.tuple (([]:List (List Int)).map bF))=L.isEmpty:=by
 rw [PyData.eqv]
 cases L <;> simp [PyData.eqvAll]
def aAZ (K:PySem.W.Frag):Sp:=fun vs H Q _=>∃ (t a:Addr) (ns:List Int) (x:V) (n:Int) (ws:List (List Int)),vs = [.ref t,x]/\gS K H t a ns/\Den K H (bD n ws) x/\bU (bD n ws)=true/\∀ p ws' H',But t H H'->gS K H' t a ns->Den K H' (bD n ws') (.ref p)->bU (bD n ws')=true->Q (.ref p) H'
theorem qE:FnScope ["tape", "book", "hands", "works", "at"] ["tape", "book"] (aH vR):=⟨rfl,rfl,rfl,by decide +kernel,rfl,by decide +kernel,by decide +kernel⟩
theorem aDi {f fD:Addr} {fd fdD:FuncData} (G:Fn K mg "_law_b_other" vR ["tape", "book"] f fd) (B:Bl mg) (GD:Fn K mg "_law_b_digit" mQ ["tape", "many"] fD fdD) (OD:FnOk P w K mg base CX0 2 fD fdD ["tape", "many"] (lJ K)):FnOk P w K mg base CX0 3 f fd ["tape", "book"] (aAZ K):=by
 refine G.fn.ok qE (fun vs H Q E h=>?_) (fun cdv A outer s H vs Q E hr h=>?_)
 ·obtain ⟨t,a,ns,x,n,ws,rfl,_⟩:=h
  rfl
 ·obtain ⟨t,a,ns,x,n,ws,rfl,hT,hx,hb,k⟩:=h
  have r2:Room 2 _:=hr
  refine ⟨_,(aD (fZ (pv 1) (eG rfl (aO (aI (i:=2) qE.nd rfl (Or.inl rfl)) (aO (aI (i:=3) qE.nd rfl (Or.inl rfl)) cH))))
  (aD (bJ (aL (zD hr.u64) (pv 3) (bX aC) (aN _))
   (aF (aQ (bX (aA (pv 2) (aA (bX (aA (bX (aA (bC mI (pv 2) aG) aC)) aC)) aC)))))
   aT)
  (aD (aV (i:=4) qE.nd rfl (Or.inl rfl) (aW GD OD r2 rfl (aA (pv 0) (aA (aK aM rfl B.len cY (aA (pv 3) aC)) aC))))
  (aF (aQ (bX (aA (pv 2) (aA (bC pT (bC pT (kF pU (pv 3) nC (nD (pv 4))) (bX (aA (bX (aA (aW GD OD r2 rfl (aA (pv 0) (aA (pv 2) aC))) aC)) aC))) (kF pU (pv 3) (nD (bC eI (pv 4) aG)) nC)) aC)))))))),?_⟩
  obtain ⟨hn1,hn6,hw12,hws⟩:=bG hb
  obtain ⟨ba,bb,ys,rfl,ha,hb2,hys⟩:=cR hx
  have hlw:=aP hys
  rw [Ac] at hlw
  have facts:∀ H2,But t H H2->SqT K H2 ba [.int n,.ref bb]/\SqT K H2 bb ys/\aZ K H2 (ws.map bF) ys:=fun H2 b=>by
   refine ⟨hT.seqT b ha,hT.seqT b hb2,?_⟩
   obtain ⟨⟨p,q,_,ht⟩,_⟩:=hT
   exact b.denAll ht _ _ (cP _ cV ws) hys
  refine ⟨_,rfl,ba,_,rfl,ha,rfl,_,_,rfl,_,_,rfl,rfl,?_⟩
  refine ⟨_,rfl,cZ (Bo _),fun z hz=>?_⟩
  have s1:=aE.new (o:=.tup []) hz
  refine ⟨.tuple (ws.map bF),.tuple (([]:List (List Int)).map bF),bV.mpr ⟨bb,ys,rfl,s1.seqT hb2,s1.denAll _ _ hys⟩,bV.mpr ⟨z,[],rfl,SqT.of aB,aY.mpr rfl⟩,uI _,uI _,uJ _,uJ _,_,rfl,?_⟩
  rw [aFd]
  have b1:But t H (upd H z (.tup [])):=But.of s1
  have T1:=hT.same s1
  generalize upd H z (.tup [])=H1 at s1 b1 T1 ⊢
  refine cF (fun c1=>?_) (fun c1=>?_)
  ·refine ⟨_,rfl,_,rfl,_,_,rfl,rfl,sz1 _,fun p1 hp1=>⟨sz1 _,fun p2 hp2=>⟨sz2 _ _,fun p3 hp3=>?_⟩⟩⟩
   have s2:=aE.new (o:=.tup [.int (n - 1)]) hp1
   have s3:=aE.new (o:=.tup [.ref p1]) hp2
   have s4:=aE.new (o:=.tup [.int n,.ref p2]) hp3
   have sf:=(s2.trans s3).trans s4
   refine k p3 [[n - 1]] _ (b1.trans (But.of sf)) (T1.same sf) (lL (ys:=[.ref p1]) (SqT.of aB) (SqT.of (s4 _ _ aB)) (aS.mpr ⟨_,_,rfl,aX.mpr ⟨p1,rfl,SqT.of (s4 _ _ (s3 _ _ aB))⟩,aY.mpr rfl⟩)) (wA hn1 hn6 (by simp) fun l hl=>?_)
   rw [An.mp hl]
   exact hV (by simp) (fun y hy=>by rw [An.mp hy]; omega) (by simp)
  ·have hne:ws≠[]:=fun z=>by subst z; exact c1 rfl
   have hpos:0 < ws.length:=Ev.mpr hne
   have S1:=facts H1 b1
   refine ⟨_,rfl,_,rfl,bb,_,rfl,.inr S1.2.1,t,a,ns,_,rfl,T1,by omega,by omega,fun r3 H3 h30 h31 b3' T3=>?_⟩
   have b3:=b1.trans b3'
   have S3:=facts H3 b3
   obtain ⟨m,rfl⟩:∃ m:Nat,r3=m:=⟨r3.toNat,by omega⟩
   have hmw:m < ws.length:=by omega
   refine ⟨_,rfl,_,rfl,_,rfl,_,rfl,bb,ys,rfl,S3.2.1,fun p1 H4 s4 hp1=>?_⟩
   rw [aAw] at hp1
   refine ⟨_,rfl,_,rfl,t,a,ns,n,rfl,T3.same s4,by omega,by omega,fun h H5 h50 h51 b5' T5=>⟨sz1 _,fun q hq=>⟨sz1 _,fun p2 hp2=>?_⟩⟩⟩
   have T4:=T3.same s4
   have s6:=(aE.new (o:=.tup [.int h]) hq).trans (aE.new (o:=.tup [.ref q]) hp2)
   have b5:=(b3.trans (But.of s4)).trans b5'
   have hp15:=T4.seqT b5' hp1
   have q6:SqT K (upd (upd H5 q (.tup [.int h])) p2 (.tup [.ref q])) q (([h]:List Int).map V.int):=SqT.of ((aE.new hp2) _ _ aB)
   have p26:SqT K (upd (upd H5 q (.tup [.int h])) p2 (.tup [.ref q])) p2 [.ref q]:=SqT.of aB
   have hp16:=s6.seqT hp15
   have b6:=b5.trans (But.of s6)
   have T6:=T5.same s6
   generalize upd (upd H5 q (.tup [.int h])) p2 (.tup [.ref q])=H6 at s6 q6 p26 hp16 b6 T6 ⊢
   refine ⟨p1,p2,_,_,rfl,rfl,hp16,p26,?_,fun p3 H8 s8 hp3=>?_⟩
   ·rw [Ax,sizeLine_eq]; simp; omega
   have S8:=facts H8 (b6.trans (But.of s8))
   refine ⟨_,rfl,_,rfl,_,_,rfl,rfl,_,rfl,bb,ys,rfl,S8.2.1,fun p4 H9 s9 hp4=>?_⟩
   have hp4':SqT K H9 p4 (ys.drop (m+1)):=by
    have e:=tQ ys (m+1)
    rw [<- e]
    exact hp4
   refine ⟨p3,p4,_,_,rfl,rfl,s9.seqT hp3,hp4',?_,fun p5 H10 s10 hp5=>⟨sz2 _ _,fun p6 hp6=>?_⟩⟩
   ·rw [Aq,Ax,Cn,sizeLine_eq]; simp; omega
   have s6f:=s8.trans (s9.trans (s10.trans (aE.new (o:=.tup [V.int n,.ref p5]) hp6)))
   have bf:=b6.trans (But.of s6f)
   have Sf:=facts _ bf
   have ews:ws.take m++[[h]]++ws.drop (m+1)=ws.set m [h]:=by
    rw [Dd,if_pos hmw]; simp
   refine k p6 (ws.set m [h]) _ bf (T6.same s6f) (lL (SqT.of aB) ((aE.new hp6).seqT hp5) ?_) (wA hn1 hn6 (by rw [Cp]; exact hw12) fun l2 hl2=>?_)
   ·rw [<- ews,Ay,Ay,List.map_take,List.map_drop]
    exact eX (eX (pB m Sf.2.2) (aS.mpr ⟨_,_,rfl,aX.mpr ⟨q,rfl,s6f.seqT q6⟩,aY.mpr rfl⟩)) (pC (m+1) Sf.2.2)
   ·rcases Ff hl2 with z | z
    ·exact hws l2 z
    ·rw [z]; exact hV (by simp) (fun y hy=>by rw [An.mp hy]; exact ⟨h50,h51⟩) (by simp)
end
structure GoodN (K:PySem.W.Frag) (H:Hp) (x:V) (y:Addr) (n:Int) (ws:List (List Int)) (hs:List Int):Prop where
 bk:Den K H (bD n ws) x
 n1:1<=n
 n7:n<=7
 w12:ws.length<=12
 six:∀ l∈ws,l.length<=6
 sq:SqL K H y (hs.map V.int)
 ln:hs.length=ws.length
 rng:∀ h∈hs,0<=h/\h < n
section
variable {P:Program} {w:World} {K:PySem.W.Frag} {mg:Str->Option Value} {base:Heap}
variable {fW fH fK fB fNB fD fND fL:Addr} {dW dH dK dB dNB dD dND dL:FuncData}
theorem GoodN.len {H:Hp} {x:V} {y:Addr} {n:Int} {ws:List (List Int)} {hs:List Int} (g:GoodN K H x y n ws hs):hs.length<=12/\1<=n/\n<=7:=⟨by have:=g.ln; have:=g.w12; omega,g.n1,g.n7⟩
theorem GoodN.hand {H:Hp} {x:V} {y:Addr} {n:Int} {ws:List (List Int)} {hs:List Int} (g:GoodN K H x y n ws hs) {i:Nat} {h:Int} (e:hs[i]?=some h):0<=h/\h < n:=g.rng h (Ah e)
theorem GoodN.deal {H:Hp} {x:V} {y:Addr} {n:Int} {ws:List (List Int)} {hs:List Int} (g:GoodN K H x y n ws hs):hs.length=ws.length/\True:=⟨g.ln,trivial⟩
def sI (K:PySem.W.Frag):Sp:=fun vs H Q _=>∃ x y n ws hs,vs = [x,.ref y]/\GoodN K H x y n ws hs/\∀ rp H' qs rs,aE H H'->H rp=none->(∀ q∈qs,H q=none)->Rows H' rp qs rs->rs.length=n.toNat->rV (gH ws hs) rs 100->Q (.ref rp) H'
theorem yJ {f:Addr} {fd:FuncData} (G:Fn K mg "handing" gO ["book", "deal"] f fd) (B:Bl mg):FnOk P w K mg base CX0 1 f fd ["book", "deal"] (sI K):=by
 refine G.fn.ok cU (fun vs H Q E h=>?_) (fun cdv A outer s H vs Q E hr h=>?_)
 ·obtain ⟨x,y,n,ws,hs,rfl,_⟩:=h
  rfl
 ·obtain ⟨x,y,n,ws,hs,rfl,g,k⟩:=h
  refine ⟨_,(aD (gF (i:=2) (own:=["hand"]) (fr:=[]) (frn:=[]) (aU (aH gO) ["book", "deal", "rows", "work", "giver", "able", "taker"] rfl rfl (by decide +kernel)) rfl cU.nd rfl rfl rfl (eE rfl B.range (aA (bA bK (pv 0) aG (fun _ _=>rfl)) aC))
    (fun _ _ _ _=>(aI (i:=0) (show (["hand"]:List Str).Nodup by decide +kernel) rfl (Or.inl rfl))) (fun _ _ _ _=>cT)
    (fun _ _ _ _=>xH))
   (aD (eU PassesOwn.never rfl (qY .l .t rfl B.enumerate rfl B.zip (aA (pv 1) (aA (bA bK (pv 0) aG (fun _ _=>rfl)) aC))) (eG rfl (aO (aI (i:=3) cU.nd rfl (Or.inl rfl)) (aO (eG rfl (aO (aI (i:=4) cU.nd rfl (Or.inl rfl)) (aO (aI (i:=5) cU.nd rfl (Or.inl rfl)) cH))) cH)))
    (aF (eU PassesOwn.never rfl (eA (pv 5)) (aI (i:=6) cU.nd rfl (Or.inl rfl))
     (aF (bJ (aL iZ (pv 6) (pv 4) (aN _))
      (aF (vB (pA hr) (bA cI (pv 2) (pv 4) (fun _ _=>rfl)) (pv 6) (pv 3) rfl))
      aT)))))
   (aF (aQ (pv 2))))),?_⟩
  obtain ⟨hl12,hn1,hn6⟩:=g.len
  obtain ⟨a,b,ys,rfl,ha,hb2,hys⟩:=cR g.bk
  have hy:=g.sq
  obtain ⟨hdl,hdg⟩:=g.deal
  have hw12:=g.w12
  have hlw:=aP hys
  rw [Ac] at hlw
  refine ⟨_,rfl,a,_,0,.int n,rfl,rfl,ha,rfl,n,rfl,by omega,by omega,fQ (lo:=0) (n:=n.toNat) (fun σ=>∃ v,σ = [v]) (fun i zs H2=>∃ qs:List Addr,zs=qs.map V.ref/\qs.length=i/\aE H H2/\qs.Nodup/\∀ q∈qs,H q=none/\H2 q=some (.dK [])) ?_ ⟨none,rfl⟩ ⟨[],rfl,rfl,aE.refl H,Gk,fun _ h=>(Ap h).elim⟩ ?_ ?_ ?_⟩
  ·rw [sizeLine_eq]; omega
  ·rintro i zs H2 ⟨qs,rfl,hq,_⟩
   rw [Ac]; omega
  ·rintro i zs σ H2 hi ⟨v,rfl⟩ ⟨qs,rfl,hq,s2,nd,hqs⟩ hz
   refine cW ?_
   intro p hp
   refine ⟨hz,⟨_,rfl⟩,qs++[p],by rw [Ay]; rfl,by rw [Aq,hq]; rfl,s2.trans (aE.new hp),?_,fun q hq'=>?_⟩
   ·rw [Fk]
    refine ⟨nd,by simp,fun x hx y hy e=>?_⟩
    rw [An.mp hy] at e
    have:=(hqs x hx).2
    rw [e,hp] at this; cases this
   ·rcases Bp.mp hq' with h | h
    ·exact ⟨(hqs q h).1,(aE.new hp) _ _ (hqs q h).2⟩
    ·rw [An.mp h]
     exact ⟨s2.free hp,aB⟩
  ·rintro zs H2 ⟨qs,rfl,hq,s2,nd,hqs⟩ rp hrp
   have s3:=s2.trans (aE.new (o:=.lst (qs.map V.ref)) hrp)
   have hrp0:H rp=none:=s2.free hrp
   have R3:Rows (upd H2 rp (.lst (qs.map V.ref))) rp qs (List.replicate n.toNat []):=⟨aB,by rw [Bn]; exact hq,nd,fun g q r h1 h2=>by
    have er:r = []:=by
     rw [Bx] at h2
     split at h2
     ·exact (Option.some.inj h2).symm
     ·cases h2
    rw [er]
    exact (aE.new hrp) _ _ (hqs q (Ah h1)).2⟩
   generalize upd H2 rp (.lst (qs.map V.ref))=H3 at s3 R3 ⊢
   have h6:∀ l∈ws,l.length<=6:=g.six
   refine ⟨_,rfl,_,rfl,a,_,1,.ref b,rfl,rfl,s3.seqT ha,rfl,y,b,_,_,rfl,s3.seqL hy,s3.seqT hb2,pG (K:=K) (k1:=.l) (k2:=.t) (a:=y) (b:=b) (xs:=hs.map V.int) (ys:=ys)
    (fun i σ H4=>(∃ v3 v4 v5 v6,σ = [some (.ref a),some (.ref y),some (.ref rp),v3,v4,v5,v6])/\aE H H4/\∃ rs,Rows H4 rp qs rs/\rs.length=n.toNat/\rV (fun g w t=>w < i/\gH ws hs g w t) rs (6*i))
    (by rw [Ac]; omega) ⟨⟨_,_,_,_,rfl⟩,s3,_,R3,Bn,fun g r hr=>?_⟩ (fun _ σ H4 _ ⟨_,s4,_⟩=>⟨s4.seqL hy,s4.seqT hb2⟩) ?_ ?_⟩
   ·have er:r = []:=by
     rw [Bx] at hr
     split at hr
     ·exact (Option.some.inj hr).symm
     ·cases hr
    rw [er]
    exact ⟨rT.nil fun w t h=>by omega,Bo _⟩
   ·rintro i u v p q σ H4 hu hv ⟨⟨v3,v4,v5,v6,rfl⟩,s4,rs,R4,hl4,E4⟩ hp hq hne
    obtain ⟨h,hh,rfl⟩:=nS hu
    obtain ⟨dv,hdv,denv⟩:=cQ hys hv
    rw [Af] at hdv
    obtain ⟨l,hl,rfl⟩:∃ l,ws[i]?=some l/\bF l=dv:=by
     cases q:ws[i]? with
     | none=>rw [q] at hdv; cases hdv
     | some l=>rw [q] at hdv; exact ⟨l,rfl,Option.some.inj hdv⟩
    obtain ⟨aw,rfl,haw⟩:=aX.mp denv
    obtain ⟨hh0,hh1⟩:=g.hand hh
    have hl6:=h6 l (Ah hl)
    have hi12:i < 12:=by
     have:=(Ad.mp hh).1
     omega
    have sp:=aE.new (o:=.tup [.int h,.ref aw]) hp
    have hq1:upd H4 p (.tup [.int h,.ref aw]) q=none:=by rw [aJ hne]; exact hq
    have sq:=aE.new (o:=.tup [.int (i:Nat),.ref p]) hq1
    have ep:upd (upd H4 p (.tup [.int h,.ref aw])) q (.tup [.int (i:Nat),.ref p]) p=some (.tup [.int h,.ref aw]):=sq _ _ aB
    have eq:upd (upd H4 p (.tup [.int h,.ref aw])) q (.tup [.int (i:Nat),.ref p]) q=some (.tup [.int (i:Nat),.ref p]):=aB
    have s5:=s4.trans (sp.trans sq)
    have R5:=R4.same (sp.trans sq)
    generalize upd (upd H4 p (.tup [.int h,.ref aw])) q (.tup [.int (i:Nat),.ref p])=H5 at ep eq s5 R5 ⊢
    refine ⟨q,_,rfl,SqT.of eq,rfl,_,_,rfl,_,_,rfl,p,_,rfl,SqT.of ep,rfl,_,_,rfl,_,_,rfl,rfl,rfl,?_⟩
    have hgl:h.toNat < qs.length:=by rw [R5.len,hl4]; omega
    obtain ⟨qh,hqh⟩:∃ qh,qs[h.toNat]?=some qh:=⟨_,Ae hgl⟩
    have hcast:((h.toNat:Nat):Int)=h:=by omega
    refine ⟨_,rfl,aw,rfl,⟨_,s5.seqT haw⟩,uS (K:=K) (a:=aw) (xs:=l.map V.int) (fun j σ H6=>(∃ v6,σ = [some (.ref a),some (.ref y),some (.ref rp),some (.int (i:Nat)),some (.int h),some (.ref aw),v6])/\aE H H6/\∃ rs,Rows H6 rp qs rs/\rs.length=n.toNat/\rV (fun g w t=>(w < i/\gH ws hs g w t)∨(w=i/\g=h/\t∈l.take j/\t≠h)) rs (6*i+j))
     ⟨⟨_,rfl⟩,s5,rs,R5,hl4,fun g r hr=>⟨(E4 g r hr).1.congr fun w t=>⟨.inl,fun z=>z.elim id fun z=>by rw [Em] at z; exact (Ap z.2.2.1).elim⟩,(E4 g r hr).2⟩⟩ (fun _ σ H6 _ ⟨_,s6,_⟩=>s6.seqT haw) ?_ ?_⟩
    ·rintro j tv σ H6 htv ⟨⟨v6,rfl⟩,s6,rs,R6,hl6',E6⟩
     obtain ⟨t,ht,rfl⟩:=nS htv
     have hj:j < l.length:=(Ad.mp ht).1
     have etake:l.take (j+1)=l.take j++[t]:=by rw [Bm,ht]; rfl
     refine ⟨_,rfl,_,rfl,rfl,_,rfl,?_⟩
     refine cF (fun c=>?_) (fun c=>?_)
     ·have hth:t≠h:=fun z=>by rw [z] at c; simp at c
      obtain ⟨r,hr⟩:∃ r,rs[h.toNat]?=some r:=⟨_,Ae (by rw [hl6']; omega)⟩
      have hat:atI (qs.map V.ref) h=some (.ref qh):=by
       have:=dJ (xs:=qs.map V.ref) (j:=h.toNat) (v:=.ref qh) (by rw [Af,hqh]; rfl)
       rwa [hcast] at this
      have hrow:=R6.row _ _ _ hqh hr
      have hrl:=(E6 _ _ hr).2
      have hqH:H qh=none:=(hqs qh (Ah hqh)).1
      refine ⟨_,rfl,_,rfl,_,rfl,rp,_,h,_,rfl,rfl,SqL.of R6.lst,hat,_,rfl,qh,_,rfl,uY.k (k:=.inl t) hrow (by rw [sizeLine_eq]; omega),?_⟩
      refine ⟨⟨_,rfl⟩,s6.wr hqH,rs.set h.toNat (jD r (.inl t) (.int (i:Nat))),R6.put hqh hr,by rw [Cp]; exact hl6',fun g2 r2 hr2=>?_⟩
      rw [Di] at hr2
      by_cases eg:h.toNat=g2
      ·rw [if_pos eg,if_pos (by rw [hl6']; omega)] at hr2
       cases hr2
       have eg':((g2:Nat):Int)=h:=by omega
       refine ⟨((E6 _ _ hr).1.put i t).congr fun w t'=>?_,At (iQ _ _ _) (by omega)⟩
       rw [hcast,eg',etake]
       constructor
       ·rintro ((z | ⟨z1,z2,z3,z4⟩) | ⟨z1,z2⟩)
        ·exact .inl z
        ·exact .inr ⟨z1,z2,Cf _ z3,z4⟩
        ·exact .inr ⟨z1,rfl,by rw [z2]; simp,by rw [z2]; exact hth⟩
       ·rintro (z | ⟨z1,z2,z3,z4⟩)
        ·exact .inl (.inl z)
        ·rcases Bp.mp z3 with z3 | z3
         ·exact .inl (.inr ⟨z1,z2,z3,z4⟩)
         ·exact .inr ⟨z1,An.mp z3⟩
      ·rw [if_neg eg] at hr2
       refine ⟨(E6 _ _ hr2).1.congr fun w t'=>?_,At (E6 _ _ hr2).2 (by omega)⟩
       have ng:¬ ((g2:Nat):Int)=h:=by omega
       constructor
       ·rintro (z | ⟨_,z2,_⟩)
        ·exact .inl z
        ·exact absurd z2 ng
       ·rintro (z | ⟨_,z2,_⟩)
        ·exact .inl z
        ·exact absurd z2 ng
     ·have hth:t=h:=by simpa using c
      refine ⟨⟨_,rfl⟩,s6,rs,R6,hl6',fun g2 r2 hr2=>⟨(E6 _ _ hr2).1.congr fun w t'=>?_,At (E6 _ _ hr2).2 (by omega)⟩⟩
      rw [etake]
      constructor
      ·rintro (z | ⟨z1,z2,z3,z4⟩)
       ·exact .inl z
       ·exact .inr ⟨z1,z2,Cf _ z3,z4⟩
      ·rintro (z | ⟨z1,z2,z3,z4⟩)
       ·exact .inl z
       ·rcases Bp.mp z3 with z3 | z3
        ·exact .inr ⟨z1,z2,z3,z4⟩
        ·exact absurd ((An.mp z3).trans hth) z4
    ·rintro σ H6 ⟨⟨v6,rfl⟩,s6,rs,R6,hl6',E6⟩
     refine ⟨⟨_,_,_,_,rfl⟩,s6,rs,R6,hl6',fun g2 r2 hr2=>⟨(E6 _ _ hr2).1.congr fun w t'=>?_,At (E6 _ _ hr2).2 (by rw [Ac]; omega)⟩⟩
     rw [Ac,Bv]
     constructor
     ·rintro (⟨z1,z2⟩ | ⟨z1,z2,z3,z4⟩)
      ·exact ⟨by omega,z2⟩
      ·subst z1
       exact ⟨by omega,by rw [hh,z2],l,hl,z3,by rw [z2]; exact z4⟩
     ·rintro ⟨z1,z2⟩
      by_cases hw:w < i
      ·exact .inl ⟨hw,z2⟩
      ·have ew:w=i:=by omega
       subst ew
       obtain ⟨z3,l',z4,z5,z6⟩:=z2
       rw [hh] at z3
       rw [hl] at z4
       cases z4
       have ez:h=g2:=Option.some.inj z3
       exact .inr ⟨rfl,ez.symm,z5,by rw [ez]; exact z6⟩
   ·rintro σ H4 ⟨⟨v3,v4,v5,v6,rfl⟩,s4,rs,R4,hl4,E4⟩
    refine ⟨_,rfl,k rp H4 qs rs s4 hrp0 (fun q hq=>(hqs q hq).1) R4 hl4 fun g r hr=>⟨(E4 g r hr).1.congr fun w t=>⟨fun z=>z.2,fun z=>⟨?_,z⟩⟩,At (E4 g r hr).2 (by rw [Ac]; omega)⟩⟩
    rw [Ac]
    exact (Ad.mp z.1).1
theorem uK {tA tB:TT} {σ:St} {H:Hp} {Q:Bool->Hp->Prop} (a b:Bool) (hA:∀ R:Bool->Hp->Prop,R a H->tA σ H R) (hB:a=true->∀ R:Bool->Hp->Prop,R b H->tB σ H R) (h:Q (a && b) H):aDw tA tB σ H Q:=by
 refine hA _ ?_
 cases a with
 | false=>exact cE h
 | true=>exact eR (hB rfl _ h)
theorem uL {Q:Nat->Int->Prop}:∀ (ss:List (Nat×Int×Int)) (hs:List Int),(∀ (j:Nat) (h:Int),hs[j]?=some h->Q j h)->(∀ s∈ss,Q s.1 s.2.2)->∀ (j:Nat) (h:Int),(dQ hs ss)[j]?=some h->Q j h
 | [],_,h0,_=>h0
 | s::r,hs,h0,h1=>by
  refine uL r (hs.set s.1 s.2.2) (fun j h e1=>?_) fun s' h'=>h1 s' (Av _ h')
  rw [Di] at e1
  by_cases e:s.1=j
  ·rw [if_pos e] at e1
   split at e1
   ·rw [<- Option.some.inj e1,<- e]
    exact h1 s (Ao ..)
   ·cases e1
  ·rw [if_neg e] at e1
   exact h0 j h e1
theorem mW {ws:List (List Int)} {hs:List Int}:∀ {ss:List (Nat×Int×Int)} {h x:Int},eK ws hs h ss x->∀ s∈ss,gH ws hs s.2.1 s.1 s.2.2
 | [],_,_,_,_,m=>(Ap m).elim
 | s::r,h,x,⟨e1,e2,e3⟩,s',m=>by
  rcases Am.mp m with rfl | m
  ·rw [e1]; exact e2
  ·exact mW e3 s' m
theorem aAj (hs:List Int) (ss:List (Nat×Int×Int)) (s:Nat×Int×Int):dQ hs (ss++[s])=(dQ hs ss).set s.1 s.2.2:=by
 unfold dQ
 rw [List.foldl_append]
 rfl
theorem sJ {p:Int->Bool} {f:List Int->Bool}:∀ {ws:List (List Int)} {hs:List Int},hs.length=ws.length->(∀ (i:Nat) (l:List Int) (h:Int),ws[i]?=some l->hs[i]?=some h->f l=p h)->(((ws.filter f).length:Nat):Int)=inS p hs
 | [],[],_,_=>rfl
 | l::ws,h::hs,hl,hq=>by
  have ih:=sJ (p:=p) (f:=f) (ws:=ws) (hs:=hs) (by simpa using hl) fun i a b ha hb=>hq (i+1) a b (by simpa using ha) (by simpa using hb)
  have h0:=hq 0 l h rfl rfl
  show _=(if p h then (1:Int) else 0)+inS p hs
  rw [<- ih,<- h0]
  cases hf:f l with
  | true=>rw [Cd hf,if_pos rfl,Bg]; omega
  | false=>rw [Ce (by rw [hf]; decide),if_neg Ar]; omega
 | [],_::_,hl,_=>by simp at hl
 | _::_,[],hl,_=>by simp at hl
theorem mX {p:Int->Bool} {g:Int->Int}:∀ l:List Int,bE ((l.filter p).map g)=bE (l.map fun h=>if p h then g h else 0)
 | []=>rfl
 | x::l=>by
  show _=(if p x then g x else 0)+bE (l.map fun h=>if p h then g h else 0)
  rw [<- mX l]
  cases hp:p x with
  | true=>rw [Cd hp,if_pos rfl]; rfl
  | false=>rw [Ce (by rw [hp]; decide),if_neg Ar,Fw]
theorem aBO (m:Nat):cG (m+1)=cG m++[(m:Int)]:=by unfold cG; rw [Gb,Ay]; rfl
def lT (n:Int) (os:List Int):List Int:=(cG n.toNat).filter fun h=>decide (h∈os)
theorem nW {n:Int} {os:List Int} {h:Int}:h∈lT n os↔(0<=h/\h < n)/\h∈os:=by
 unfold lT
 rw [Es,decide_eq_true_iff]
 refine and_congr_left fun _=>?_
 unfold cG
 rw [Bd]
 constructor
 ·rintro ⟨i,hi,rfl⟩
  have:=Br.mp hi
  omega
 ·rintro ⟨h0,h1⟩
  exact ⟨h.toNat,Br.mpr (by omega),by omega⟩
theorem uM (n:Int) (os:List Int):(lT n os).Pairwise (· < ·):=by
 refine List.Pairwise.filter _ ?_
 unfold cG
 rw [List.pairwise_map]
 exact List.Pairwise.imp (fun h=>by omega) (Ei)
def aFe (n:Int) (ws:List (List Int)) (hs:List Int):Prop:=hs.length=ws.length/\∀ (j:Nat) (h:Int),hs[j]?=some h->h=n∨∃ l,ws[j]?=some l/\h∈l
theorem aEg {n:Int} {ws:List (List Int)} {rs hs os:List Int} (hn:0<=n) (hw:∀ l∈ws,∀ x∈l,0<=x/\x < n) (hd:aFe n ws hs) (hc:aC3 ws hs os) (hno:n∈os) (hf:∀ h∈os,0<=h->h < n->((hs.count h:Nat):Int)=rs.getD h.toNat 0) :
  sF ws rs (lT n os)=((hs.count n:Nat):Int):=by
 have hrng:∀ h∈hs,0<=h/\h < n+1:=fun h hh=>by
  obtain ⟨j,hj⟩:=Bb.mp hh
  rcases hd.2 j h hj with rfl | ⟨l,hl,hm⟩
  ·omega
  ·have:=hw l (Ah hl) h hm; omega
 have e1:=sJ (p:=fun h=>decide (h∈os)) (f:=fun l=>l.all fun h=>(lT n os).any (·==h)) hd.1 fun i l h hl hh=>by
  rw [Cm,Bf,decide_eq_true_iff]
  constructor
  ·intro q
   rcases hd.2 i h hh with rfl | ⟨l',hl',hm⟩
   ·exact hno
   ·rw [hl] at hl'
    cases hl'
    obtain ⟨x,hx,ex⟩:=Cj.mp (q h hm)
    rw [<- eq_of_beq ex]
    exact (nW.mp hx).2
  ·intro q t ht
   have htr:=hw l (Ah hl) t ht
   refine Cj.mpr ⟨t,nW.mpr ⟨htr,?_⟩,by simp⟩
   by_cases e:t=h
   ·rw [e]; exact q
   ·exact hc h q i t ⟨hh,l,hl,ht,e⟩
 have e2:=jK (n:=n+1) (fun h=>decide (h∈os)) hrng
 rw [show (n+1).toNat=n.toNat+1 by omega,aBO,Ay,jU,show ((n.toNat:Nat):Int)=n by omega] at e2
 have e3:bE ([n].map fun h=>if (decide (h∈os))=true then ((hs.count h:Nat):Int) else 0)=((hs.count n:Nat):Int):=by
  show (if (decide (n∈os))=true then ((hs.count n:Nat):Int) else 0)+0=_
  rw [decide_eq_true hno,if_pos rfl]; omega
 have e4:bE ((lT n os).map fun h=>rs.getD h.toNat 0)=bE ((cG n.toNat).map fun h=>if (decide (h∈os))=true then ((hs.count h:Nat):Int) else 0):=by
  unfold lT
  rw [mX]
  refine kY fun h hh=>?_
  by_cases q:h∈os
  ·rw [decide_eq_true q,if_pos rfl,if_pos rfl]
   unfold cG at hh
   obtain ⟨i,hi,rfl⟩:=Bd.mp hh
   have:=Br.mp hi
   exact (hf _ q (by omega) (by omega)).symm
  ·rw [decide_eq_false q,if_neg Ar,if_neg Ar]
 unfold sF
 rw [e1,e4]
 omega
def jW (n:Int) (hs:List Int):List (Option Int):=hs.map fun h=>if h < n then some h else none
theorem aBP {n:Int} {hs:List Int} {h:Int} (h1:h < n):(jW n hs).count (some h)=hs.count h:=by
 unfold jW
 induction hs with
 | nil=>rfl
 | cons x hs ih =>
  rw [Ba,Ca,Ca,ih]
  congr 1
  by_cases hx:x < n
  ·rw [if_pos hx]
   by_cases e:x=h
   ·simp [e]
   ·simp [e]
  ·rw [if_neg hx]
   have:¬ x=h:=by omega
   simp [this]
theorem aBQ {n:Int} {hs:List Int} (hr:∀ h∈hs,h<=n):(jW n hs).count none=hs.count n:=by
 unfold jW
 induction hs with
 | nil=>rfl
 | cons x hs ih =>
  rw [Ba,Ca,Ca,ih fun h hh=>hr h (Av _ hh)]
  congr 1
  have:=hr x (Ao ..)
  by_cases hx:x < n
  ·rw [if_pos hx]
   have:¬ x=n:=by omega
   simp [this]
  ·rw [if_neg hx]
   have:x=n:=by omega
   simp [this]
def uN (K:PySem.W.Frag):Sp:=fun vs H Q _=>∃ x y n ws hs,vs = [x,y]/\fY K H x y n ws hs/\∀ p H' (ms:List Int),aE H H'->H p=none->H' p=some (.lst (ms.map V.int))->ms.Perm (cC n hs)->ms.Pairwise (·≥·)->Q (.ref p) H'
theorem aBR:FnScope ["book", "deal"] ["book", "deal"] (aH nN):=⟨rfl,rfl,rfl,by decide +kernel,rfl,by decide +kernel,by decide +kernel⟩
theorem aAk {f:Addr} {fd:FuncData} (G:Fn K mg "falling" nN ["book", "deal"] f fd) (B:Bl mg) (R:Pr K mg fW fH fK fB fNB fD fND fL dW dH dK dB dNB dD dND dL):FnOk P w K mg base CX0 8 f fd ["book", "deal"] (uN K):=by
 have OL:FnOk P w K mg base CX0 7 fL dL ["book", "deal"] (vW K):=xV B R
 refine G.fn.ok aBR (fun vs H Q E h=>?_) (fun cdv A outer s H vs Q E hr h=>?_)
 ·obtain ⟨x,y,n,ws,hs,rfl,_⟩:=h
  rfl
 ·obtain ⟨x,y,n,ws,hs,rfl,g,k⟩:=h
  refine ⟨_,aF (aQ (sQ rfl B.sorted (aW R.L OL hr rfl (aA (pv 0) (aA (pv 1) aC))))),?_⟩
  obtain ⟨hl,hn1,hn6⟩:=g.len
  refine ⟨_,rfl,_,rfl,x,y,n,ws,hs,rfl,g,fun p H1 s1 hp=>?_⟩
  refine ⟨p,cC n hs,rfl,.inr (SqT.of hp),by rw [mB]; omega,fun q ms hq hpm hpw=>?_⟩
  exact k q _ ms (s1.trans (aE.new hq)) (s1.free hq) aB hpm hpw
structure ToldR (n:Int) (ws:List (List Int)) (rs:List Int) (os:List (Option Int)) (ls:List Int):Prop where
 dealt:aFc ws rs os
 rise:ls.Pairwise (· < ·)
 rng:∀ x∈ls,0<=x/\x < n
 over:sF ws rs ls=((os.count none:Nat):Int)
def aEy (K:PySem.W.Frag):Sp:=fun vs H Q _=>∃ (x:V) (q:Addr) (n:Int) (ws:List (List Int)) (rs:List Int),vs = [x,.ref q]/\Den K H (bD n ws) x/\bU (bD n ws)=true/\SqT K H q (rs.map V.int)/\eC n rs /\
 ∀ (p dp sp:Addr) (os:List (Option Int)) (ls:List Int) H',aE H H'->H' p=some (.tup [.ref dp,.ref sp])->H' dp=some (.tup (os.map oV))->H' sp=some (.tup (ls.map V.int))->ToldR n ws rs os ls->Q (.ref p) H'
theorem mF:FnScope ["book", "rooms", "hands", "works", "deal", "found", "free", "work", "giver", "taker", "some"] ["book", "rooms"] (aH zQ):=⟨rfl,rfl,rfl,by decide +kernel,rfl,by decide +kernel,by decide +kernel⟩
set_option maxHeartbeats 4000000 in
theorem aFf {f fN fHd fR fW' fA:Addr} {fd dN dHd dR dW' dA:FuncData} (G:Fn K mg "in_rooms" zQ ["book", "rooms"] f fd) (B:Bl mg) (R:Pr K mg fW fH fK fB fNB fD fND fL dW dH dK dB dNB dD dND dL)
  (GNr:Fn K mg "need_rooms" mP ["book", "rooms"] fN dN) (GAr:Fn K mg "are_rooms" mO ["book", "thing"] fA dA) (GH:Fn K mg "handing" gO ["book", "deal"] fHd dHd) (GR:Fn K mg "reached" kP ["rows", "first"] fR dR) (GW:Fn K mg "way_to" rF ["found", "last"] fW' dW'):FnOk P w K mg base CX0 7 f fd ["book", "rooms"] (aEy K):=by
 have ONr:FnOk P w K mg base CX0 6 fN dN ["book", "rooms"] (nV K):=yI GNr B R GAr
 have OH:FnOk P w K mg base CX0 1 fHd dHd ["book", "deal"] (sI K):=yJ GH B
 have OR:FnOk P w K mg base CX0 1 fR dR ["rows", "first"] (oQ K):=rW GR B
 have OW:FnOk P w K mg base CX0 1 fW' dW' ["found", "last"] (wC K):=xZ GW B
 refine G.fn.ok mF (fun vs H Q E h=>?_) (fun cdv A outer s H vs Q E hr h=>?_)
 ·obtain ⟨x,q,n,ws,rs,rfl,_⟩:=h
  rfl
 ·obtain ⟨x,q,n,ws,rs,rfl,hx,hbk,hq,hro,k⟩:=h
  have r6:Room 6 _:=hr
  have r1:Room 1 _:=hr.mono (by decide)
  refine ⟨_,(aD (dZ (aW GNr ONr r6 rfl (aA (pv 0) (aA (pv 1) aC))))
  (aD (fZ (pv 0) (eG rfl (aO (aI (i:=2) mF.nd rfl (Or.inr rfl)) (aO (aI (i:=3) mF.nd rfl (Or.inl rfl)) cH))))
  (aD (aV (i:=4) mF.nd rfl (Or.inr rfl) (bC aEV (eV (aA (pv 2) aC)) (aK aM rfl B.len cY (aA (pv 3) aC))))
  (aD (mY PassesOwn.never (bW dM)
   (aD (aV (i:=5) mF.nd rfl (Or.inr rfl) (aW GR OR r1 rfl (aA (aW GH OH r1 rfl (aA (bX (aA (bC eI (pv 2) aG) (aA (pv 3) aC))) (aA (pv 4) aC))) (aA (pv 2) aC))))
  (aD (aAA (gF (i:=6) (own:=["hand"]) (fr:=[4,2,1]) (frn:=["deal", "hands", "rooms"]) (aU (aH zQ) ["book", "rooms", "hands", "works", "deal", "found", "free", "work", "giver", "taker", "some"] rfl rfl (by decide +kernel)) rfl mF.nd rfl rfl rfl (aAz (pv 5))
    (fun _ _ _ _=>(aI (i:=0) (show (["hand", "deal", "hands", "rooms"]:List Str).Nodup by decide +kernel) rfl (Or.inl rfl))) (fun _ _ _ _=>iW (PW.pt (jL (aL oX (pv 0) (pv 2) (aN _)) (iN (aL oX (zU (K:=K) rfl PySem.F.plainAttrs_list PySem.F.slot_list_count PySem.F.type_list_count (aBE (K:=K) rfl) (pv 1) (aA (pv 0) aC)) (bA (jQ (K:=K) rfl) (pv 3) (pv 0) (fun _ _=>rfl)) (aN _))))))
    (fun _ _ _ _=>(pv 0))))
  (aD (bJ (aL iC (aK aM rfl B.len cY (aA (pv 6) aC)) aG (aN _))
   (aF wJ)
   aT)
  (aF (eU PassesOwn.never rfl (gJ (aW GW OW r1 rfl (aA (pv 5) (aA (bA cI (pv 6) aG (fun _ _=>rfl)) aC)))) (eG rfl (aO (aI (i:=7) mF.nd rfl (Or.inl rfl)) (aO (aI (i:=8) mF.nd rfl (Or.inl rfl)) (aO (aI (i:=9) mF.nd rfl (Or.inl rfl)) cH))))
   (aF (fZ (pv 9) (oA (pv 4) (pv 7) jA)))))))))
  (aD (aV (i:=10) mF.nd rfl (Or.inl rfl) (bH bM rfl B.tuple bT (aA (bO (own:=["hand"]) (fr:=[5]) (frn:=["found"]) (aU (aH zQ) ["book", "rooms", "hands", "works", "deal", "found", "free", "work", "giver", "taker", "some"] rfl rfl (by decide +kernel)) rfl (eE rfl B.range (aA (pv 2) aC))
    (fun _ _ _ _=>(aI (i:=0) (show (["hand", "found"]:List Str).Nodup by decide +kernel) rfl (Or.inl rfl))) (fun _ _ _ _=>iW (yN (aEZ (pA hr) (pv 0) (pv 1)) (by with_unfolding_all rfl)))
    (fun _ _ _ _=>(pv 0))) aC)))
  (aF (aQ (bX (aA (bH bM rfl B.tuple bT (aA (bO (own:=["hand"]) (fr:=[2]) (frn:=["hands"]) (aU (aH zQ) ["book", "rooms", "hands", "works", "deal", "found", "free", "work", "giver", "taker", "some"] rfl rfl (by decide +kernel)) rfl (gJ (pv 4))
    (fun _ _ _ _=>(aI (i:=0) (show (["hand", "hands"]:List Str).Nodup by decide +kernel) rfl (Or.inl rfl))) (fun _ _ _ _=>cT)
    (fun _ _ _ _=>(aBX (aL oX (pv 0) (pv 1) (aN _)) (pv 0) eF))) aC)) (aA (pv 10) aC)))))))))),?_⟩
  obtain ⟨hn1,hn6,hw12,hws⟩:=bG hbk
  have hwk:∀ l∈ws,∀ x∈l,0<=x/\x < n:=fun l hl=>(bL (hws l hl)).2.1
  have hw6:∀ l∈ws,l.length<=6:=fun l hl=>by
   obtain ⟨_,w2,w3⟩:=bL (hws l hl)
   have:=eQ (by omega) w2 w3
   omega
  refine ⟨_,rfl,_,rfl,x,q,n,ws,rs,rfl,hx,hbk,hq,hro,fun H1 s1=>?_⟩
  obtain ⟨a,b,ys,rfl,ha,hb2,hys⟩:=cR (s1.den _ _ hx)
  have hlw:=aP hys
  rw [Ac] at hlw
  have hq1:=s1.seqT hq
  refine ⟨_,rfl,a,_,rfl,ha,rfl,_,_,rfl,_,_,rfl,rfl,?_⟩
  refine ⟨_,rfl,sz1 _,fun z hz=>⟨_,rfl,b,_,rfl,.inr ((aE.new hz).seqT hb2),z,_,_,rfl,rfl,aB,by omega,by omega,cZ (by simp; omega),fun dl hdl=>?_⟩⟩
  have s2:=aE.new (o:=.lst [V.int n]) hz
  generalize upd H1 z (.lst [V.int n])=H2 at s2 hdl ⊢
  have ed0:(List.replicate ((ys.length:Int)).toNat [V.int n]).flatten=(List.replicate ws.length n).map V.int:=by
   rw [Eg,Gr,Bh,hlw]
  rw [ed0]
  have hdl1:H1 dl=none:=s2.free hdl
  have s3:=s2.trans (aE.new (o:=.lst ((List.replicate ws.length n).map V.int)) hdl)
  have d3:upd H2 dl (.lst ((List.replicate ws.length n).map V.int)) dl=some (.lst ((List.replicate ws.length n).map V.int)):=aB
  generalize upd H2 dl (.lst ((List.replicate ws.length n).map V.int))=H3 at s3 d3 ⊢
  have hx1:=s1.den _ _ hx
  have hw0:aFe n ws (List.replicate ws.length n):=⟨Bn,fun j h e=>.inl (Dj (Ah e))⟩
  have hc0:∀ h:Int,0<=h->h < n->(((List.replicate ws.length n).count h:Nat):Int)<=rs.getD h.toNat 0:=fun h _ h1=>by
   rw [List.count_eq_zero_of_not_mem (fun z=>by have:=Dj z; omega)]
   exact (lA hro h).1
  generalize List.replicate ws.length n=hs0 at d3 hw0 hc0
  refine ⟨fun m σ H4=>∃ (v5 v6 v7 v8 v9 v10:Option V) (hs:List Int),σ = [some (.ref a),some (.ref q),some (.int n),some (.ref b),some (.ref dl),v5,v6,v7,v8,v9,v10]/\m=hs.count n/\aE H1 H4/\H4 dl=some (.lst (hs.map V.int))/\aFe n ws hs/\∀ h:Int,0<=h->h < n->((hs.count h:Nat):Int)<=rs.getD h.toNat 0,
   ⟨_,_,_,_,_,_,_,hs0,rfl,rfl,s3,d3,hw0,hc0⟩,?_⟩
  rintro m σ H4 ⟨v5,v6,v7,v8,v9,v10,hs,rfl,rfl,s4,d4,hh,hle⟩
  refine ⟨_,rfl,eR ⟨_,fun σ' H' z=>z,?_⟩⟩
  have hrng:∀ h∈hs,0<=h/\h < n+1:=fun h hm=>by
   obtain ⟨j,hj⟩:=Bb.mp hm
   rcases hh.2 j h hj with rfl | ⟨l,hl,hm⟩
   ·omega
   ·have:=hwk l (Ah hl) h hm; omega
  refine ⟨_,rfl,_,_,rfl,rfl,_,rfl,sz2 _ _,fun bk hbk'=>?_⟩
  have s5:=aE.new (o:=.tup [.int (n+1),.ref b]) hbk'
  have b5:upd H4 bk (.tup [.int (n+1),.ref b]) bk=some (.tup [.int (n+1),.ref b]):=aB
  have d5:=s5 _ _ d4
  have s05:=s4.trans s5
  generalize upd H4 bk (.tup [.int (n+1),.ref b])=H5 at s5 b5 d5 s05 ⊢
  have gN:GoodN K H5 (.ref bk) dl (n+1) ws hs:=⟨lL (SqT.of b5) (s05.seqT hb2) (s05.denAll _ _ hys),by omega,by omega,hw12,hw6,SqL.of d5,hh.1,hrng⟩
  refine ⟨_,rfl,.ref bk,dl,n+1,ws,hs,rfl,gN,fun rp H6 qs rws s6 hrp hqs R6 hlr ER=>?_⟩
  have s06:=s05.trans s6
  have d6:=s6 _ _ d5
  have hedge:∀ g w t,gH ws hs g w t->0<=t/\t < n+1:=fun g w t e=>by
   obtain ⟨_,l,h1,h2,_⟩:=e
   have:=hwk l (Ah h1) t h2
   omega
  refine ⟨_,rfl,rp,n,qs,rws,n+1,ws,hs,rfl,R6,hlr,ER,hedge,by omega,by omega,by omega,fun fdp H7 fs os s7 hfd e7 T7 C7=>?_⟩
  have s07:=s06.trans s7
  have d7:=s7 _ _ d6
  have T7l:=T7.len
  have hfl:=T7.flen
  have hnos:n∈os:=Ah T7.head
  have hat:∀ o:Int,0<=o->o < n->atI (rs.map V.int) o=some (.int (rs.getD o.toNat 0)):=fun o h0 h1=>by
   have hl:o.toNat < rs.length:=by rw [hro.1]; omega
   have:=dJ (xs:=rs.map V.int) (j:=o.toNat) (v:=.int (rs.getD o.toNat 0)) (by rw [Af,Bc,Ae hl]; rfl)
   rwa [show ((o.toNat:Nat):Int)=o by omega] at this
  refine ⟨_,rfl,fdp,fs,rfl,e7,fun o nf=>aBF (a:=fdp) (o:=o) (kvs:=fs) (fun σ=>∃ v,σ = [v,some (.ref dl),some (.int n),some (.ref q)]) (fun i zs H8=>H8=upd H7 fdp (.frz o (.dK fs))/\zs=((os.take i).filter fun o=>decide (o < n) && decide (((hs.count o:Nat):Int) < rs.getD o.toNat 0)).map V.int) (cZ (by omega)) ⟨_,rfl⟩ ⟨rfl,rfl⟩ (fun i zs H8 z=>?_) (fun i zs H8 z=>by rw [z.1]; exact aB) ?_ ?_⟩
  ·rw [z.2,Ac]
   exact At (Cw _ _) (by rw [Ax]; omega)
  ·rintro i zs' σ p H8 hp ⟨v,rfl⟩ ⟨rfl,rfl⟩ hsz
   obtain ⟨ov,hov,hpe⟩:∃ ov,os[i]?=some ov/\p.1=.inl ov:=by
    have e:=congrArg (fun l=>l[i]?) T7.keys
    simp only [Af] at e
    rw [hp] at e
    cases q:os[i]? with
    | none=>rw [q] at e; cases e
    | some ov=>rw [q] at e; exact ⟨ov,rfl,Option.some.inj e⟩
   have etake:os.take (i+1)=os.take i++[ov]:=by rw [Bm,hov]; rfl
   have hor:=T7.rng ov (Ah hov)
   have s8:aE H6 (upd H7 fdp (.frz o (.dK fs))):=s7.wr hfd
   have d8:=s8 _ _ d6
   have q8:=(s06.trans s8).seqT hq1
   generalize upd H7 fdp (.frz o (.dK fs))=H8 at s8 d8 q8
   rw [hpe]
   refine uK (decide (ov < n)) (decide (((hs.count ov:Nat):Int) < rs.getD ov.toNat 0)) (fun R hR=>?_) (fun h0 R hR=>?_) ?_
   ·exact ⟨_,rfl,_,rfl,_,_,rfl,rfl,_,rfl,hR⟩
   ·have h0':ov < n:=of_decide_eq_true h0
    exact ⟨_,rfl,.inl ⟨rfl,_,SqL.of d8⟩,_,rfl,dl,hs,ov,rfl,rfl,SqL.of d8,_,rfl,_,rfl,q,_,ov,_,rfl,rfl,q8,hat ov hor.1 h0',_,_,rfl,rfl,_,rfl,hR⟩
   refine cF (fun c=>?_) (fun c=>?_)
   ·refine ⟨_,rfl,hsz,⟨_,rfl⟩,rfl,?_⟩
    rw [etake,Bu,Ay]
    congr 1
    rw [Cd (p:=fun o=>decide (o < n) && decide (((hs.count o:Nat):Int) < rs.getD o.toNat 0)) (a:=ov) c]
    rfl
   ·refine ⟨⟨_,rfl⟩,rfl,?_⟩
    rw [etake,Bu,Ce (p:=fun o=>decide (o < n) && decide (((hs.count o:Nat):Int) < rs.getD o.toNat 0)) (a:=ov) c]
    rw [Ew,Df]
  ·rintro zs' H8 ⟨rfl,rfl⟩ lp hlp
   rw [hfl,Bv]
   generalize hfree:(os.filter fun o=>decide (o < n) && decide (((hs.count o:Nat):Int) < rs.getD o.toNat 0))=free
   have nlf:fdp≠lp:=fun z=>by rw [<- z,aB] at hlp; cases hlp
   have hlp7:H7 lp=none:=by rw [aJ (Ne.symm nlf)] at hlp; exact hlp
   refine ⟨fdp,o,fs,by rw [aJ nlf,aB],nf,?_⟩
   have s8:aE H7 (upd (upd (upd H7 fdp (.frz o (.dK fs))) lp (.lst (free.map V.int))) fdp (.dK fs)):=fun b u hb=>by
    by_cases hbf:b=fdp
    ·rw [hbf] at hb ⊢
     rw [aB,<- e7]; exact hb
    ·rw [aJ hbf,aJ (fun z=>by rw [z,hlp7] at hb; cases hb),aJ hbf]
     exact hb
   have l8:(upd (upd (upd H7 fdp (.frz o (.dK fs))) lp (.lst (free.map V.int))) fdp (.dK fs)) lp=some (.lst (free.map V.int)):=by
    rw [aJ (Ne.symm nlf),aB]
   generalize upd (upd (upd H7 fdp (.frz o (.dK fs))) lp (.lst (free.map V.int))) fdp (.dK fs)=H8 at s8 l8 ⊢
   have s08:=s07.trans s8
   have e8:=s8 _ _ e7
   have d8:=s8 _ _ d7
   have T8:=T7.tp (Tp.of s8)
   refine ⟨_,rfl,lp,_,rfl,.inl (SqL.of l8),rfl,_,rfl,?_⟩
   rw [pP,Ac]
   refine cF (fun c=>?_) (fun c=>?_)
   ·have hf0:free = []:=by
     cases free with
     | nil=>rfl
     | cons _ _ =>
      have:=eq_of_beq c
      rw [Bg] at this
      omega
    have hful:∀ h∈os,0<=h->h < n->((hs.count h:Nat):Int)=rs.getD h.toNat 0:=fun h ho h0 h1=>by
     rw [hf0] at hfree
     have h2:=Ej.mp hfree h ho
     rw [Az,decide_eq_true_iff,decide_eq_true_iff] at h2
     have h3:=hle h h0 h1
     have:¬ ((hs.count h:Nat):Int) < rs.getD h.toNat 0:=fun z=>h2 ⟨h1,z⟩
     omega
    have htold:ToldR n ws rs (jW n hs) (lT n os):=by
     refine ⟨⟨by unfold jW; rw [Ac]; exact hh.1,fun j h l e1 e2=>?_,fun i hi=>?_⟩,uM n os,fun x hx=>(nW.mp hx).1,?_⟩
     ·unfold jW at e1
      rw [Af] at e1
      cases e3:hs[j]? with
      | none=>rw [e3] at e1; cases e1
      | some y =>
       rw [e3] at e1
       have e4:(if y < n then some y else none)=some h:=Option.some.inj e1
       by_cases hy:y < n
       ·rw [if_pos hy] at e4
        have:=Option.some.inj e4
        subst this
        rcases hh.2 j y e3 with e5 | ⟨l',e5,e6⟩
        ·omega
        ·rw [e2] at e5; cases e5; exact e6
       ·rw [if_neg hy] at e4; cases e4
     ·have hin:(i:Int) < n:=by have:=hro.1; omega
      rw [aBP hin]
      have:=hle i (by omega) hin
      rwa [Bh] at this
     ·rw [aBQ fun h hm=>by have:=hrng h hm; omega]
      exact aEg (by omega) hwk hh C7 hnos hful
    refine ⟨_,rfl,n,rfl,by omega,by omega,fQ (lo:=0) (n:=n.toNat) (fun σ=>∃ v,σ = [v,some (.ref fdp)]) (fun i zs H9=>H9=H8/\zs=(((cG n.toNat).take i).filter fun h=>decide (h∈os)).map V.int) (cZ (by omega)) ⟨_,rfl⟩ ⟨rfl,rfl⟩ (fun i zs H9 z=>?_) ?_ ?_⟩
    ·rw [z.2,Ac]
     exact At (Cw _ _) (by rw [Ax]; omega)
    ·rintro i zs' σ H9 hi ⟨v,rfl⟩ ⟨rfl,rfl⟩ hsz
     rw [show (0:Int)+(i:Int)=(i:Int) by omega]
     have hu:(cG n.toNat)[i]?=some (i:Int):=by unfold cG; rw [Af,Dc hi]; rfl
     have etake:(cG n.toNat).take (i+1)=(cG n.toNat).take i++[(i:Int)]:=by rw [Bm,hu]; rfl
     refine ⟨_,rfl,_,rfl,fdp,_,rfl,oI.k (k:=.inl (i:Int)) e8,_,rfl,?_⟩
     rw [qB T8.keys]
     refine cF (fun c=>?_) (fun c=>?_)
     ·refine ⟨_,rfl,hsz,⟨_,rfl⟩,rfl,?_⟩
      rw [etake,Bu,Ay,Cd (p:=fun h=>decide (h∈os)) (a:=(i:Int)) c]
      rfl
     ·refine ⟨⟨_,rfl⟩,rfl,?_⟩
      rw [etake,Bu,Ce (p:=fun h=>decide (h∈os)) (a:=(i:Int)) c,Ew,Df]
    ·rintro zs' H9 ⟨rfl,rfl⟩ lq hlq
     rw [Bi (show (cG n.toNat).length<=n.toNat by unfold cG; rw [Ac,Co]; exact Ai _)]
     show _
     refine ⟨lq,_,rfl,.inl ⟨SqL.of aB,fun sp hsp=>?_⟩⟩
     have s9:=(aE.new (o:=.lst ((lT n os).map V.int)) hlq).trans (aE.new (o:=.tup ((lT n os).map V.int)) hsp)
     have p9:upd (upd H9 lq (.lst ((lT n os).map V.int))) sp (.tup ((lT n os).map V.int)) sp=some (.tup ((lT n os).map V.int)):=aB
     have d9:=s9 _ _ d8
     have s09:=s08.trans s9
     unfold lT at htold p9 s9 d9 s09
     generalize ((cG n.toNat).filter fun h=>decide (h∈os))=ls at htold p9 s9 d9 s09 ⊢
     generalize upd (upd H9 lq (.lst (ls.map V.int))) sp (.tup (ls.map V.int))=H10 at p9 s9 d9 s09 ⊢
     refine ⟨_,rfl,dl,rfl,⟨_,SqL.of d9⟩,oF (K:=K) (a:=dl) (xs:=hs.map V.int) (fun σ=>∃ v,σ = [v,some (.int n)]) (fun i zs H11=>H11=H10/\zs=(jW n (hs.take i)).map oV) (cZ (by rw [Ac,hh.1]; omega)) ⟨_,rfl⟩ ⟨rfl,rfl⟩ (fun i zs H11 z=>?_) (fun i zs H11 z=>by rw [z.1]; exact SqL.of d9) ?_ ?_⟩
     ·rw [z.2,Ac]
      unfold jW
      rw [Ac,Ax]; omega
     ·rintro i zs' σ y H11 hy ⟨v,rfl⟩ ⟨rfl,rfl⟩ hsz
      rw [Af] at hy
      obtain ⟨t,ht,rfl⟩:∃ t,hs[i]?=some t/\V.int t=y:=by
       cases z:hs[i]? with
       | none=>rw [z] at hy; cases hy
       | some t=>rw [z] at hy; exact ⟨t,rfl,Option.some.inj hy⟩
      have etake:jW n (hs.take (i+1))=jW n (hs.take i)++[if t < n then some t else none]:=by
       unfold jW
       rw [Bm,ht,Ay]; rfl
      refine cW ?_
      refine ⟨_,rfl,_,rfl,_,_,rfl,rfl,_,rfl,?_⟩
      refine cF (fun c=>?_) (fun c=>?_)
      ·refine ⟨_,rfl,hsz,⟨_,rfl⟩,rfl,?_⟩
       rw [etake,if_pos (of_decide_eq_true c),Ay]
       rfl
      ·refine ⟨hsz,⟨_,rfl⟩,rfl,?_⟩
       rw [etake,if_neg (fun z=>c (decide_eq_true z)),Ay]
       rfl
     ·rintro zs' H11 ⟨rfl,rfl⟩ lr hlr'
      rw [Bi (show hs.length<=(hs.map V.int).length by rw [Ac]; exact Ai _)]
      refine ⟨lr,_,rfl,.inl ⟨SqL.of aB,fun dp hdp=>?_⟩⟩
      have s12:=(aE.new (o:=.lst ((jW n hs).map oV)) hlr').trans (aE.new (o:=.tup ((jW n hs).map oV)) hdp)
      have p12:upd (upd H11 lr (.lst ((jW n hs).map oV))) dp (.tup ((jW n hs).map oV)) dp=some (.tup ((jW n hs).map oV)):=aB
      generalize upd (upd H11 lr (.lst ((jW n hs).map oV))) dp (.tup ((jW n hs).map oV))=H12 at s12 p12 ⊢
      refine ⟨_,rfl,sz2 _ _,fun p hp=>?_⟩
      have s13:=aE.new (o:=.tup [.ref dp,.ref sp]) hp
      exact k p dp sp _ ls _ (s1.trans (s09.trans (s12.trans s13))) aB (s13 _ _ p12) ((s12.trans s13) _ _ p9) htold
   ·cases free with
    | nil=>exact absurd rfl c
    | cons t0 fr =>
     have ht0:t0∈os/\t0 < n/\((hs.count t0:Nat):Int) < rs.getD t0.toNat 0:=by
      have:=Es.mp (show t0∈os.filter _ by rw [hfree]; exact Ao ..)
      rw [Az,decide_eq_true_iff,decide_eq_true_iff] at this
      exact this
     obtain ⟨jl,hjl⟩:=Bb.mp ht0.1
     have hj0:0 < jl:=by
      rcases Fa jl with z | z
      ·rw [z,T7.head] at hjl
       have:=Option.some.inj hjl
       omega
      ·exact z
     refine ⟨_,rfl,_,rfl,lp,_,0,.int t0,rfl,rfl,SqL.of l8,dJ (j:=0) rfl,fdp,t0,fs,os,n,n+1,ws,hs,jl,rfl,e8,T8,by omega,hjl,fun sp H9 ps ss s9 hsp hps S9 P9 N9 in9 ne9=>?_⟩
     have s09:=s08.trans s9
     have d9:=s9 _ _ d8
     have ndl:dl≠sp:=fun z=>by rw [z,hsp] at d8; cases d8
     have hlt:∀ s∈ss,s.1 < hs.length:=fun s hs'=>by
      obtain ⟨h1,_⟩:=mW P9 s hs'
      exact (Ad.mp h1).1
     refine ⟨sp,rfl,⟨_,SqL.of hps⟩,kD (K:=K) (a:=sp) (xs:=ps.map V.ref) (fun j σ H10=>∃ (v7 v8 v9:Option V),σ = [some (.ref a),some (.ref q),some (.int n),some (.ref b),some (.ref dl),some (.ref fdp),some (.ref lp),v7,v8,v9,v10]/\aE H1 H10/\H10 sp=some (.lst (ps.map V.ref))/\StepsAt H10 ps ss/\H10 dl=some (.lst ((dQ hs (ss.take j)).map V.int)))
      ⟨_,_,_,rfl,s09,hps,S9,d9⟩ (fun j σ H10 _ ⟨_,_,_,_,_,h,_⟩=>SqL.of h) ?_ ?_⟩
     ·rintro j pv σ H10 hpv ⟨v7,v8,v9,rfl,s10,p10,S10,e10⟩
      rw [Af] at hpv
      obtain ⟨p,hp,rfl⟩:∃ p,ps[j]?=some p/\V.ref p=pv:=by
       cases z:ps[j]? with
       | none=>rw [z] at hpv; cases hpv
       | some p=>rw [z] at hpv; exact ⟨p,rfl,Option.some.inj hpv⟩
      have hjs:j < ss.length:=by rw [<- S10.len]; exact (Ad.mp hp).1
      have es:ss[j]?=some ss[j]:=Ae hjs
      generalize ss[j]=s at es
      have hp10:=S10.at_ j p s hp es
      have hsl:=hlt s (Ah es)
      refine ⟨p,_,rfl,SqT.of hp10,rfl,_,_,rfl,_,_,rfl,_,_,rfl,rfl,?_⟩
      refine ⟨_,rfl,_,rfl,_,rfl,dl,_,(s.1:Int),s.1,rfl,rfl,e10,?_,?_⟩
      ·have:=aAa (n:=((dQ hs (ss.take j)).map V.int).length) (k:=(s.1:Int)) (by omega) (by rw [Ac,jJ]; omega)
       rwa [Bh] at this
      ·refine ⟨_,_,_,rfl,s10.wr hdl1,by rw [aJ (Ne.symm ndl)]; exact p10,S10.tp (Tp.upd fun xs z=>by rw [e10] at z; cases z),?_⟩
       rw [aB,Bm,es]
       show _=some (HO.lst ((dQ hs (ss.take j++[s])).map V.int))
       rw [aAj,Gd]
     ·rintro σ H10 ⟨v7,v8,v9,rfl,s10,p10,S10,e10⟩
      rw [Ac,S10.len,Bv] at e10
      have gc:=mV ss P9 N9
      have hcn:=gc n
      rw [if_pos rfl,if_neg (show ¬ n=t0 by omega)] at hcn
      refine ⟨_,by show (dQ hs ss).count n < hs.count n; omega,_,_,_,_,_,_,dQ hs ss,rfl,rfl,s10,e10,⟨by rw [jJ]; exact hh.1,uL ss hs hh.2 fun s hs'=>?_⟩,fun h h0 h1=>?_⟩
      ·obtain ⟨_,l,e1,e2,_⟩:=mW P9 s hs'
       exact .inr ⟨l,e1,e2⟩
      ·have g1:=gc h
       rw [if_neg (show ¬ h=n by omega)] at g1
       have g2:=hle h h0 h1
       have g3:=ht0.2.2
       by_cases e:h=t0
       ·rw [if_pos e] at g1
        rw [<- e] at g3
        omega
       ·rw [if_neg e] at g1
        omega
theorem aFW:bootBuiltins "any" = some (.builtin "any"):=by decide +kernel
theorem aEh {X:Cx} {K:PySem.W.Frag} {tg l:Expr} {tl:TE} (hK:X.K=K) (hl:PE X l tl):PI X tg l (aFx K tl):=by subst hK; exact eA hl
theorem oU:∀ {l m:List Int},l.Pairwise (· < ·)->m.Pairwise (· < ·)->(∀ k,k∈l↔k∈m)->l=m
 | [],[],_,_,_=>rfl
 | [],b::m,_,_,h=>absurd ((h b).mpr (Ao ..)) Ap
 | a::l,[],_,_,h=>absurd ((h a).mp (Ao ..)) Ap
 | a::l,b::m,hl,hm,h=>by
  obtain ⟨l1,l2⟩:=Bt.mp hl
  obtain ⟨m1,m2⟩:=Bt.mp hm
  have e:a=b:=by
   rcases Am.mp ((h a).mp (Ao ..)) with z | z
   ·exact z
   ·rcases Am.mp ((h b).mpr (Ao ..)) with y | y
    ·exact y.symm
    ·have:=m1 a z; have:=l1 b y; omega
  subst e
  refine congrArg _ (oU l2 m2 fun k=>⟨fun hk=>?_,fun hk=>?_⟩)
  ·rcases Am.mp ((h k).mp (Av _ hk)) with z | z
   ·have:=l1 k hk; omega
   ·exact z
  ·rcases Am.mp ((h k).mpr (Av _ hk)) with z | z
   ·have:=m1 k hk; omega
   ·exact z
def aA0 (n:Int) (ls:List Int):Bool:=ls.isEmpty || cB n (bF ls)
theorem aDj {n:Int} {ls:List Int}:aA0 n ls=true↔ls.Pairwise (· < ·)/\∀ h∈ls,0<=h/\h < n:=by
 unfold aA0
 cases ls with
 | nil=>exact ⟨fun _=>⟨.nil,fun _ h=>(Ap h).elim⟩,fun _=>rfl⟩
 | cons a r =>
  show (false || _)=true↔_
  rw [Bool.false_or]
  constructor
  ·intro h
   obtain ⟨_,w2,w3⟩:=bL h
   exact ⟨w3,w2⟩
  ·rintro ⟨h1,h2⟩
   exact hV (by simp) h2 h1
def oD:Option Int->PyData
 | none=>.none
 | some i=>.int i
theorem oW {K:PySem.W.Frag} {H:Hp}:∀ os:List (Option Int),aZ K H (os.map oD) (os.map oV)
 | []=>aY.mpr rfl
 | none::os=>aS.mpr ⟨_,_,rfl,kL.mpr rfl,oW os⟩
 | some i::os=>aS.mpr ⟨_,_,rfl,cS.mpr rfl,oW os⟩
theorem wD:∀ os:List (Option Int),(os.map oD).map mE=os
 | []=>rfl
 | none::os=>congrArg (none::·) (wD os)
 | some i::os=>congrArg (some i::·) (wD os)
theorem uO:∀ {os:List (Option Int)} {ws:List (List Int)},os.length=ws.length->(∀ (j:Nat) (h:Int) (l:List Int),os[j]?=some (some h)->ws[j]?=some l->h∈l)->((os.map oD).zip ws).all (fun p=>iK p.1 p.2)=true
 | [],[],_,_=>rfl
 | o::os,l::ws,hl,hq=>by
  have ih:=uO (os:=os) (ws:=ws) (by simpa using hl) fun j h l e1 e2=>hq (j+1) h l (by simpa using e1) (by simpa using e2)
  rw [Ba,List.zip_cons_cons,Gp,ih,Fm]
  cases o with
  | none=>rfl
  | some h=>exact Cj.mpr ⟨h,hq 0 h l rfl rfl,by simp⟩
 | [],_::_,hl,_=>by simp at hl
 | _::_,[],hl,_=>by simp at hl
theorem aFg {ws:List (List Int)} {rs:List Int} {os:List (Option Int)} (h:aFc ws rs os):gW ws rs (.tuple (os.map oD))=true:=by
 show (decide ((os.map oD).length=ws.length) && (((os.map oD).zip ws).all (fun p=>iK p.1 p.2) && sG ((os.map oD).map mE) rs))=true
 rw [wD,uO h.1 h.2.1,Ac,decide_eq_true h.1,Ck,Ck]
 unfold sG
 rw [Bf]
 exact fun i hi=>decide_eq_true (h.2.2 i (Br.mp hi))
theorem aDk {ws:List (List Int)} {rs:List Int} {os:List (Option Int)} {j:Nat} (hj:j < rs.length) (h:rs.getD j 0 < ((os.count (some (j:Int)):Nat):Int)):gW ws rs (.tuple (os.map oD))=false:=by
 show (decide ((os.map oD).length=ws.length) && (((os.map oD).zip ws).all (fun p=>iK p.1 p.2) && sG ((os.map oD).map mE) rs))=false
 have:sG ((os.map oD).map mE) rs=false:=by
  rw [wD]
  unfold sG
  rw [List.all_eq_false]
  exact ⟨j,Br.mpr hj,by rw [decide_eq_true_iff]; omega⟩
 rw [this,Dp,Dp]
def aEi:Scope:=aGm { kind:=.function,names:=[(".0",.local),("able",.local),("some",.free)],isGenerator:=false,isCoroutine:=false } (aH gX)
def aA1 (K:PySem.W.Frag):Sp:=fun vs H Q _=>∃ (x:V) (q tp dp sp:Addr) (n:Int) (ws:List (List Int)) (rs:List Int) (os:List (Option Int)) (ls:List Int),vs = [x,.ref q,.ref tp]/\Den K H (bD n ws) x/\bU (bD n ws)=true/\SqT K H q (rs.map V.int)/\eC n rs/\H tp=some (.tup [.ref dp,.ref sp])/\H dp=some (.tup (os.map oV))/\H sp=some (.tup (ls.map V.int))/\ToldR n ws rs os ls/\∀ H',aE H H'->Q (.int (os.count none:Nat)) H'
theorem iT:FnScope ["book", "rooms", "told", "deal", "some", "left", "inside", "hand", "has", "tight"] ["book", "rooms", "told"] (aH gX):=⟨rfl,rfl,rfl,by decide +kernel,rfl,by decide +kernel,by decide +kernel⟩
set_option maxHeartbeats 4000000 in
theorem aDl {f fDe fNu fN fA fIi fDb fWi:Addr} {fd dDe dNu dN dA dIi dDb dWi:FuncData} (G:Fn K mg "_law_b_right" gX ["book", "rooms", "told"] f fd) (B:Bl mg) (R:Pr K mg fW fH fK fB fNB fD fND fL dW dH dK dB dNB dD dND dL)
  (GDe:Fn K mg "_law_b_is_dealt" rG ["book", "rooms", "deal"] fDe dDe) (GNu:Fn K mg "_law_b_number" nO ["thing"] fNu dNu) (GNr:Fn K mg "need_rooms" mP ["book", "rooms"] fN dN) (GAr:Fn K mg "are_rooms" mO ["book", "thing"] fA dA) (GIi:Fn K mg "is_in_rooms" kQ ["book", "rooms", "thing"] fIi dIi) (GDb:Fn K mg "do_bar" oN ["book", "rooms", "some", "number"] fDb dDb) (GWi:Fn K mg "is_within" lI ["able", "some"] fWi dWi):FnOk P w K mg base CX0 8 f fd ["book", "rooms", "told"] (aA1 K):=by
 have ONr:FnOk P w K mg base CX0 6 fN dN ["book", "rooms"] (nV K):=yI GNr B R GAr
 have OIi:FnOk P w K mg base CX0 7 fIi dIi ["book", "rooms", "thing"] (aEx K):=aFb GIi B R GNr ONr
 have ODb:FnOk P w K mg base CX0 7 fDb dDb ["book", "rooms", "some", "number"] (aAW K):=aDd GDb B R GNr ONr GWi
 have ODe:FnOk P w K mg base CX0 2 fDe dDe ["book", "rooms", "deal"] (aAY K):=aDh GDe B GNu
 have ONu:FnOk P w K mg base CX0 1 fNu dNu ["thing"] (sH K):=uH GNu B
 refine G.fn.ok iT (fun vs H Q E h=>?_) (fun cdv A outer s H vs Q E hr h=>?_)
 ·obtain ⟨x,q,tp,dp,sp,n,ws,rs,os,ls,rfl,_⟩:=h
  rfl
 ·obtain ⟨x,q,tp,dp,sp,n,ws,rs,os,ls,rfl,hx,hb,hq,hro,htp,hdp,hsp,ht,k⟩:=h
  have r7:Room 7 _:=hr
  have r2:Room 2 _:=hr.mono (by decide)
  have r1:Room 1 _:=hr.mono (by decide)
  refine ⟨_,(aD (bJ (PW.pt (eM (bZ (bW (aK bQ rfl B.isinstance iG (aA (pv 2) (aA (dY (v:=.ty "tuple") rfl B.tuple bT rfl) aC))))) (eM (aL iZ (aK aM rfl B.len cY (aA (pv 2) aC)) aG (aN _)) (dP (bZ (bW (aW GDe ODe r2 rfl (aA (pv 0) (aA (pv 1) (aA (bA bK (pv 2) aG (fun _ _=>rfl)) aC))))))))))
   (aF (aQ eF))
   aT)
  (aD (fZ (pv 2) (eG rfl (aO (aI (i:=3) iT.nd rfl (Or.inl rfl)) (aO (aI (i:=4) iT.nd rfl (Or.inr rfl)) cH))))
  (aD (bJ (PW.pt (eM (bZ (bW (aK bQ rfl B.isinstance iG (aA (pv 4) (aA (dY (v:=.ty "tuple") rfl B.tuple bT rfl) aC))))) (dP (bZ (bW (aK (eW rfl) rfl B.all lZ (aA (bO (own:=["hand"]) (fr:=[]) (frn:=[]) (aU (aH gX) ["book", "rooms", "told", "deal", "some", "left", "inside", "hand", "has", "tight"] rfl rfl (by decide +kernel)) rfl (eA (pv 4))
    (fun _ _ _ _=>(aI (i:=0) (show (["hand"]:List Str).Nodup by decide +kernel) rfl (Or.inl rfl))) (fun _ _ _ _=>cT)
    (fun _ _ _ _=>(aW GNu ONu r1 rfl (aA (pv 0) aC)))) aC)))))))
   (aF (aQ eF))
   aT)
  (aD (bJ (PW.pt (eM (aL (zE hr.u64) (bH jO rfl B.list vO (aA (pv 4) aC)) (aK (vN rfl) rfl B.sorted xR (aA (bH (aBD (K:=K) rfl rfl) rfl B.set aCO (aA (pv 4) aC)) aC)) (aN _)) (dP (bW (aK (aCt rfl) rfl B.any aFW (aA (bO (own:=["hand"]) (fr:=[0]) (frn:=["book"]) (aU (aH gX) ["book", "rooms", "told", "deal", "some", "left", "inside", "hand", "has", "tight"] rfl rfl (by decide +kernel)) rfl (eA (pv 4))
    (fun _ _ _ _=>(aI (i:=0) (show (["hand", "book"]:List Str).Nodup by decide +kernel) rfl (Or.inl rfl))) (fun _ _ _ _=>cT)
    (fun _ _ _ _=>(aFq (fJ oX (pv 0) aG (aN _)) (kB (fJ qI (pv 0) (bA (jQ (K:=K) rfl) (pv 1) aG (fun _ _=>rfl)) (aN _)))))) aC))))))
   (aF (aQ eF))
   aT)
  (aD (aV (i:=5) iT.nd rfl (Or.inl rfl) (aK aM rfl B.len cY (aA (bO (own:=["one"]) (fr:=[]) (frn:=[]) (aU (aH gX) ["book", "rooms", "told", "deal", "some", "left", "inside", "hand", "has", "tight"] rfl rfl (by decide +kernel)) rfl (eA (pv 3))
    (fun _ _ _ _=>(aI (i:=0) (show (["one"]:List Str).Nodup by decide +kernel) rfl (Or.inl rfl))) (fun _ _ _ _=>iW (aL yR (pv 0) eF (aN _)))
    (fun _ _ _ _=>(pv 0))) aC)))
  (aD (gF (i:=6) (own:=["able"]) (fr:=[4]) (frn:=["some"]) (aU (aH gX) ["book", "rooms", "told", "deal", "some", "left", "inside", "hand", "has", "tight"] rfl rfl (by decide +kernel)) rfl iT.nd rfl rfl rfl (eA (bA bK (pv 0) aG (fun _ _=>rfl)))
    (fun _ _ _ _=>(aI (i:=0) (show (["able", "some"]:List Str).Nodup by decide +kernel) rfl (Or.inl rfl))) (fun _ _ _ _=>iW (aL (aAQ (K:=K) rfl hr.u64) (bO (own:=["hand"]) (fr:=[1]) (frn:=["some"]) (aU aEi ["able", "some"] rfl rfl (by decide +kernel)) rfl (aEh (K:=K) rfl (pv 0))
    (fun _ _ _ _=>(aI (i:=0) (show (["hand", "some"]:List Str).Nodup by decide +kernel) rfl (Or.inl rfl))) (fun _ _ _ _=>iW (aL (sV (K:=K) rfl) (pv 0) (pv 1) (by with_unfolding_all rfl)))
    (fun _ _ _ _=>(pv 0))) (eV aC) (aN _)))
    (fun _ _ _ _=>(pv 0)))
  (aD (bJ (aL iZ (bC mI (aK aM rfl B.len cY (aA (pv 6) aC)) (aK (wR rfl) rfl B.sum aEu (aA (bO (own:=["hand"]) (fr:=[1]) (frn:=["rooms"]) (aU (aH gX) ["book", "rooms", "told", "deal", "some", "left", "inside", "hand", "has", "tight"] rfl rfl (by decide +kernel)) rfl (eA (pv 4))
    (fun _ _ _ _=>(aI (i:=0) (show (["hand", "rooms"]:List Str).Nodup by decide +kernel) rfl (Or.inl rfl))) (fun _ _ _ _=>cT)
    (fun _ _ _ _=>(bA (jQ (K:=K) rfl) (pv 1) (pv 0) (fun _ _=>rfl)))) aC))) (pv 5) (aN _))
   (aF (aQ eF))
   aT)
  (aD (bJ (PW.pt (eM (aL lH (aW GIi OIi r7 rfl (aA (pv 0) (aA (pv 1) (aA (pv 3) aC)))) dM (aN _)) (dP (aL lH (aW GDb ODb r7 rfl (aA (pv 0) (aA (pv 1) (aA (pv 4) (aA (pv 5) aC))))) dM (aN _)))))
   (aF (aQ eF))
   aT)
  (aD (eU PassesOwn.never rfl (gJ (kF aDD (bO (own:=["one"]) (fr:=[]) (frn:=[]) (aU (aH gX) ["book", "rooms", "told", "deal", "some", "left", "inside", "hand", "has", "tight"] rfl rfl (by decide +kernel)) rfl (eA (pv 3))
    (fun _ _ _ _=>(aI (i:=0) (show (["one"]:List Str).Nodup by decide +kernel) rfl (Or.inl rfl))) (fun _ _ _ _=>iW (aL pQ (pv 0) eF (aN _)))
    (fun _ _ _ _=>(pv 0))) (nD (aBZ yQ aG)) nC)) (aI (i:=7) iT.nd rfl (Or.inr rfl))
   (aD (aV (i:=8) iT.nd rfl (Or.inl rfl) (aK aM rfl B.len cY (aA (bO (own:=["one"]) (fr:=[7]) (frn:=["hand"]) (aU (aH gX) ["book", "rooms", "told", "deal", "some", "left", "inside", "hand", "has", "tight"] rfl rfl (by decide +kernel)) rfl (eA (pv 3))
    (fun _ _ _ _=>(aI (i:=0) (show (["one", "hand"]:List Str).Nodup by decide +kernel) rfl (Or.inl rfl))) (fun _ _ _ _=>iW (aL iC (pv 0) (pv 1) (aN _)))
    (fun _ _ _ _=>(pv 0))) aC)))
  (aD (aV (i:=9) iT.nd rfl (Or.inl rfl) (bC pT (bC pT (kF pU (pv 1) nC (nD (pv 7))) (bX (aA (bC mI (pv 8) aG) aC))) (kF pU (pv 1) (nD (bC eI (pv 7) aG)) nC)))
  (aF (bJ (aL lH (aW GIi OIi r7 rfl (aA (pv 0) (aA (pv 9) (aA (pv 3) aC)))) dM (aN _))
   (aF (aQ eF))
   aT)))))
  (aD (bJ (aL lH (aW GDb ODb r7 rfl (aA (pv 0) (aA (pv 1) (aA (pv 4) (aA (bC eI (pv 5) aG) aC))))) dM (aN _))
   (aF (aQ eF))
   aT)
  (aF (aQ (pv 5))))))))))))),?_⟩
  obtain ⟨hn1,hn6,hw12,hws⟩:=bG hb
  obtain ⟨a,b,ys,rfl,ha,hb2,hys⟩:=cR hx
  have hlw:=aP hys
  rw [Ac] at hlw
  have hgood:aA0 n ls=true:=aDj.mpr ⟨ht.rise,ht.rng⟩
  have hl12:ls.length<=6:=by
   have:=eQ (by omega) ht.rng ht.rise
   omega
  have hol:=ht.dealt.1
  refine ⟨_,rfl,.ref tp,.tup,rfl,.inr (.inl ⟨rfl,_,SqT.of htp⟩),_,rfl,?_⟩
  refine cE ?_
  refine ⟨_,rfl,tp,_,rfl,.inr (SqT.of htp),rfl,_,rfl,?_⟩
  refine cE ?_
  refine ⟨_,rfl,_,rfl,_,rfl,tp,_,0,.ref dp,rfl,rfl,SqT.of htp,rfl,.ref a,q,dp,n,ws,rs,os,rfl,hx,hb,hq,hro,SqT.of hdp,ht.dealt,fun H1 s1=>?_⟩
  refine ⟨_,rfl,?_⟩
  refine cE ?_
  refine ⟨_,rfl,tp,_,rfl,SqT.of (s1 _ _ htp),rfl,_,_,rfl,_,_,rfl,rfl,?_⟩
  refine ⟨_,rfl,.ref sp,.tup,rfl,.inr (.inl ⟨rfl,_,SqT.of (s1 _ _ hsp)⟩),_,rfl,?_⟩
  refine cE ?_
  have hp1:SqT K H1 sp (ls.map V.int):=SqT.of (s1 _ _ hsp)
  refine ⟨_,rfl,sp,rfl,⟨_,hp1⟩,iF (K:=K) (a:=sp) (xs:=ls.map V.int) (vs:=(ls.map fun _=>true).map V.bl) (fun σ=>∃ v,σ = [v]) (by rw [Ac]; omega) (by rw [Ac,Ac,Ac]) hp1 ⟨none,rfl⟩ ?_ ?_⟩
  ·rintro i xv v σ H3 hxv hv ⟨v0,rfl⟩ s3 Q' hQ'
   obtain ⟨h,hh,rfl⟩:=kZ hxv
   have ev:v=V.bl true:=by
    rw [Af,Af,hh] at hv
    exact (Option.some.inj hv).symm
   rw [ev] at hQ'
   exact ⟨_,rfl,h,rfl,hQ' _ _ ⟨_,rfl⟩ (aE.refl _)⟩
  rintro H2 s2' z2 hz2
  refine ⟨z2,_,rfl,SqL.of aB,_,rfl,?_⟩
  have s2:=(s1.trans s2').trans (aE.new (o:=.lst ((ls.map fun _=>true).map V.bl)) hz2)
  generalize upd H2 z2 (.lst ((ls.map fun _=>true).map V.bl))=H2' at s2 ⊢
  rw [show (ls.map fun _=>true).all id=true by rw [Du,Bf]; exact fun _ _=>rfl]
  refine cE ?_
  have hp2:SqT K H2' sp (ls.map V.int):=SqT.of (s2 _ _ hsp)
  refine ⟨_,rfl,sp,_,rfl,.inr hp2,fun lp hlp=>?_⟩
  have s3:=s2.trans (aE.new (o:=.lst (ls.map V.int)) hlp)
  have e3:upd H2' lp (.lst (ls.map V.int)) lp=some (.lst (ls.map V.int)):=aB
  generalize upd H2' lp (.lst (ls.map V.int))=H3 at s3 e3 ⊢
  refine ⟨_,rfl,sp,ls,rfl,SqT.of (s3 _ _ hsp),by omega,fun st hst=>⟨st,ls,rfl,aB,by omega,fun op out hout hop=>?_⟩⟩
  have s4n:=(aE.new (o:=aDW _ st ls) hst).trans (aE.new (o:=.lst (out.map V.int)) hop)
  refine ⟨.list (ls.map .int),.list (out.map .int),gG.mpr ⟨lp,rfl,s4n.seqL (SqL.of e3)⟩,gG.mpr ⟨op,rfl,SqL.of aB⟩,dX _,dX _,eP _,eP _,_,rfl,?_⟩
  rw [oP]
  have s4:=s3.trans s4n
  generalize upd (upd H3 st (aDW _ st ls)) op (.lst (out.map V.int))=H4 at s4 ⊢
  rw [decide_eq_true (show ls=out from oU ht.rise hout.1 fun h=>(hout.2 h).symm)]
  refine cE ?_
  have hp4:SqT K H4 sp (ls.map V.int):=SqT.of (s4 _ _ hsp)
  refine ⟨_,rfl,sp,rfl,⟨_,hp4⟩,iF (K:=K) (a:=sp) (xs:=ls.map V.int) (vs:=(ls.map fun _=>false).map V.bl) (fun σ=>∃ v,σ = [v,some (.ref a)]) (by rw [Ac]; omega) (by rw [Ac,Ac,Ac]) hp4 ⟨none,rfl⟩ ?_ ?_⟩
  ·rintro i xv v σ H5 hxv hv ⟨v0,rfl⟩ s5 Q' hQ'
   obtain ⟨h,hh,rfl⟩:=kZ hxv
   have ev:v=V.bl false:=by
    rw [Af,Af,hh] at hv
    exact (Option.some.inj hv).symm
   have hrh:=ht.rng h (Ah hh)
   rw [ev] at hQ'
   refine ⟨_,rfl,_,_,rfl,rfl,_,rfl,?_⟩
   rw [decide_eq_false (show ¬ h < 0 by omega)]
   refine cE ?_
   refine ⟨_,rfl,_,rfl,a,_,0,.int n,rfl,rfl,(s4.trans s5).seqT ha,rfl,_,_,rfl,rfl,?_⟩
   dsimp only
   rw [decide_eq_false (show ¬ n<=h by omega)]
   exact hQ' _ _ ⟨_,rfl⟩ (aE.refl _)
  rintro H5 s5 z5 hz5
  refine ⟨z5,_,rfl,SqL.of aB,_,rfl,?_⟩
  have s6:=(s4.trans s5).trans (aE.new (o:=.lst ((ls.map fun _=>false).map V.bl)) hz5)
  generalize upd H5 z5 (.lst ((ls.map fun _=>false).map V.bl))=H6 at s6 ⊢
  rw [show (ls.map fun _=>false).any id=false by rw [Gc,List.any_eq_false]; exact fun _ _=>Ar]
  refine cE ?_
  -- left
  have hd6:SqT K H6 dp (os.map oV):=SqT.of (s6 _ _ hdp)
  refine ⟨_,rfl,dp,rfl,⟨_,hd6⟩,gA (K:=K) (a:=dp) (xs:=os.map oV) (fun σ=>∃ v,σ = [v]) (fun i zs H7=>H7=H6/\zs.length=(os.take i).count none) (cZ (by rw [Ac]; omega)) ⟨none,rfl⟩ ⟨rfl,rfl⟩ (fun i zs H7 z=>by rw [z.2]; exact At (De) (by rw [Ax]; omega)) (fun i zs H7 z=>by rw [z.1]; exact hd6) ?_ ?_⟩
  ·rintro i zs σ u H7 hu ⟨v0,rfl⟩ ⟨rfl,hzl⟩ hz
   rw [Af] at hu
   obtain ⟨o,ho,rfl⟩:∃ o,os[i]?=some o/\oV o=u:=by
    cases q:os[i]? with
    | none=>rw [q] at hu; cases hu
    | some o=>rw [q] at hu; exact ⟨o,rfl,Option.some.inj hu⟩
   have etk:os.take (i+1)=os.take i++[o]:=by rw [Bm,ho]; rfl
   refine ⟨_,rfl,rfl,_,rfl,?_⟩
   cases o with
   | none =>
    refine eR ?_
    exact ⟨_,rfl,hz,⟨_,rfl⟩,rfl,by rw [etk,Cz,Aq,hzl]; rfl⟩
   | some j =>
    refine cE ?_
    exact ⟨⟨_,rfl⟩,rfl,by rw [etk,Cz,hzl]; rfl⟩
  rintro zs7 H7 ⟨rfl,hz7⟩ l7 hl7
  rw [Ac,Bi (Ai _)] at hz7
  have s8:=s6.trans (aE.new (o:=.lst zs7) hl7)
  refine ⟨l7,_,rfl,.inl (SqL.of aB),?_⟩
  rw [hz7]
  generalize upd H7 l7 (.lst zs7)=H8 at s8 ⊢
  have hp8:SqT K H8 sp (ls.map V.int):=SqT.of (s8 _ _ hsp)
  have hq8:=s8.seqT hq
  -- inside
  refine ⟨_,rfl,a,_,1,.ref b,rfl,rfl,s8.seqT ha,rfl,b,rfl,⟨_,s8.seqT hb2⟩,gA (K:=K) (a:=b) (xs:=ys) (fun σ=>∃ v,σ = [v,some (.ref sp)]) (fun i zs H9=>aE H8 H9/\zs.length=((ws.take i).filter fun l=>l.all fun h=>ls.any (·==h)).length) (cZ (by omega)) ⟨none,rfl⟩ ⟨aE.refl _,rfl⟩ ?_ ?_ ?_ ?_⟩
  ·rintro i zs H9 ⟨_,hz⟩
   rw [hz]
   exact At (Cw _ _) (by rw [Ax]; omega)
  ·rintro i zs H9 ⟨s9,_⟩
   exact (s8.trans s9).seqT hb2
  ·rintro i zs σ u H9 hu ⟨v0,rfl⟩ ⟨s9,hzl⟩ hz5
   obtain ⟨dv,hdv,denv⟩:=cQ hys hu
   rw [Af] at hdv
   obtain ⟨l,hl,rfl⟩:∃ l,ws[i]?=some l/\bF l=dv:=by
    cases q:ws[i]? with
    | none=>rw [q] at hdv; cases hdv
    | some l=>rw [q] at hdv; exact ⟨l,rfl,Option.some.inj hdv⟩
   obtain ⟨aw,rfl,haw⟩:=aX.mp denv
   obtain ⟨w1,w2,w3⟩:=bL (hws l (Ah hl))
   have hl6:=eQ (by omega) w2 w3
   have etake:ws.take (i+1)=ws.take i++[l]:=by rw [Bm,hl]; rfl
   have s89:=s8.trans s9
   have haw5:=s89.seqT haw
   refine ⟨_,rfl,aw,rfl,⟨_,haw5⟩,gA (K:=K) (a:=aw) (xs:=l.map V.int) (fun σ=>∃ v,σ = [v,some (.ref sp)]) (fun j ys H10=>aE H9 H10/\ys=((l.take j).filter fun h=>!ls.any (·==h)).map V.int) (cZ (by rw [Ac]; omega)) ⟨none,rfl⟩ ⟨aE.refl _,rfl⟩ ?_ ?_ ?_ ?_⟩
   ·rintro j ys H10 ⟨_,rfl⟩
    rw [Ac]
    exact At (Cw _ _) (by rw [Ax]; omega)
   ·rintro j ys H10 ⟨s10,_⟩
    exact s10.seqT haw5
   ·rintro j ys σ u H10 hu6 ⟨v0,rfl⟩ ⟨s10,rfl⟩ hz6
    obtain ⟨h,hh,rfl⟩:=kZ hu6
    have et:l.take (j+1)=l.take j++[h]:=by rw [Bm,hh]; rfl
    refine ⟨_,rfl,_,rfl,sp,_,rfl,.inr ((s9.trans s10).seqT hp8),rfl,iB _,_,rfl,?_⟩
    rw [jP]
    cases hany:ls.any (·==h) with
    | true =>
     refine cE ?_
     refine ⟨⟨_,rfl⟩,s10,?_⟩
     rw [et,Bu,Ce (p:=fun h=>!ls.any (·==h)) (a:=h) (l:=[]) (by rw [hany]; decide),Ew,Df]
    | false =>
     refine eR ?_
     refine ⟨_,rfl,hz6,⟨_,rfl⟩,s10,?_⟩
     rw [et,Bu,Cd (p:=fun h=>!ls.any (·==h)) (a:=h) (l:=[]) (by rw [hany]; rfl),Ew,Ay]
     rfl
   ·rintro ys H10 ⟨s10,rfl⟩ zp hzp
    rw [Ac,Bv]
    refine ⟨cZ (Bo _),fun ep hep=>?_⟩
    have s11:=(aE.new (o:=.lst ((l.filter fun h=>!ls.any (·==h)).map V.int)) hzp).trans (aE.new (o:=.lst []) hep)
    refine ⟨.list ((l.filter fun h=>!ls.any (·==h)).map .int),.list (([]:List Int).map .int),gG.mpr ⟨zp,rfl,(aE.new hep).seqL (SqL.of aB)⟩,gG.mpr ⟨ep,rfl,SqL.of aB⟩,dX _,dX _,eP _,eP _,_,rfl,?_⟩
    rw [oP]
    have s9b:=s10.trans s11
    generalize upd (upd H10 zp (.lst ((l.filter fun h=>!ls.any (·==h)).map V.int))) ep (.lst [])=H11 at s9b ⊢
    have eall:decide ((l.filter fun h=>!ls.any (·==h)) = [])=l.all fun h=>ls.any (·==h):=by
     rw [Cm,decide_eq_true_iff,Ej,Bf]
     refine forall_congr' fun h=>forall_congr' fun _=>?_
     cases ls.any (·==h) <;> simp
    rw [eall]
    refine cF (fun c=>?_) (fun c=>?_)
    ·refine ⟨_,rfl,hz5,⟨_,rfl⟩,s9.trans s9b,?_⟩
     rw [etake,Bu,Aq,Aq,hzl]
     congr 1
     rw [Cd (p:=fun l:List Int=>l.all fun h=>ls.any (·==h)) (a:=l) (l:=[]) c]; rfl
    ·refine ⟨⟨_,rfl⟩,s9.trans s9b,?_⟩
     rw [etake,Bu,Aq,hzl,Ce (p:=fun l:List Int=>l.all fun h=>ls.any (·==h)) (a:=l) (l:=[]) c]; rfl
  rintro zs9 H9 ⟨s9,hz9⟩ l9 hl9
  rw [hlw,Bv] at hz9
  have s10:=(s8.trans s9).trans (aE.new (o:=.lst zs9) hl9)
  have e10:upd H9 l9 (.lst zs9) l9=some (.lst zs9):=aB
  generalize upd H9 l9 (.lst zs9)=H10 at s10 e10 ⊢
  refine ⟨_,rfl,l9,_,rfl,.inl (SqL.of e10),?_⟩
  rw [hz9]
  have hp10:SqT K H10 sp (ls.map V.int):=SqT.of (s10 _ _ hsp)
  have hq10:=s10.seqT hq
  refine ⟨_,rfl,sp,rfl,⟨_,hp10⟩,iF (K:=K) (a:=sp) (xs:=ls.map V.int) (vs:=(ls.map fun h=>rs.getD h.toNat 0).map V.int) (fun σ=>∃ v,σ = [v,some (.ref q)]) (by rw [Ac]; omega) (by rw [Ac,Ac,Ac]) hp10 ⟨none,rfl⟩ ?_ ?_⟩
  ·rintro i xv v σ H7 hxv hv ⟨v0,rfl⟩ s7 Q' hQ'
   obtain ⟨h,hh,rfl⟩:=kZ hxv
   obtain ⟨h0,h1⟩:=ht.rng h (Ah hh)
   have ev:v=V.int (rs.getD h.toNat 0):=by
    rw [Af,Af,hh] at hv
    exact (Option.some.inj hv).symm
   have hlt:h.toNat < rs.length:=by rw [hro.1]; omega
   have hat:atI (rs.map V.int) h=some (.int (rs.getD h.toNat 0)):=by
    have e:=dJ (xs:=rs.map V.int) (j:=h.toNat) (v:=.int (rs.getD h.toNat 0)) (by rw [Af,Bc,Ae hlt]; rfl)
    rwa [show ((h.toNat:Nat):Int)=h by omega] at e
   refine ⟨_,rfl,_,rfl,q,_,h,_,rfl,rfl,s7.seqT hq10,hat,?_⟩
   rw [ev] at hQ'
   exact hQ' _ _ ⟨_,rfl⟩ (aE.refl _)
  rintro H11 s11 z11 hz11
  refine ⟨z11,ls.map fun h=>rs.getD h.toNat 0,rfl,SqL.of aB,fun y hy=>?_,by rw [Ac]; omega,_,_,rfl,rfl,?_⟩
  ·obtain ⟨h,_,rfl⟩:=Bd.mp hy
   exact lA hro h
  have s12:=s10.trans (s11.trans (aE.new (o:=.lst ((ls.map fun h=>rs.getD h.toNat 0).map V.int)) hz11))
  generalize upd H11 z11 (.lst ((ls.map fun h=>rs.getD h.toNat 0).map V.int))=H12 at s12 ⊢
  refine ⟨_,rfl,rfl,_,rfl,?_⟩
  have hov:=ht.over
  unfold sF at hov
  rw [show (!decide (V.int ((((ws.filter fun l=>l.all fun h=>ls.any (·==h)).length:Nat):Int) - bE (ls.map fun h=>rs.getD h.toNat 0))=V.int ((os.count none:Nat):Int)))=false by rw [hov]; simp]
  refine cE ?_
  have hden:∀ H',aE H H'->Den K H' (.tuple (os.map oD)) (.ref dp):=fun H' s'=>bV.mpr ⟨dp,_,rfl,SqT.of (s' _ _ hdp),oW os⟩
  have hbar:∀ m,oT n ws rs ls m=decide (m<=((os.count none:Nat):Int)):=fun m=>by
   show (aA0 n ls && _)=_
   rw [hgood,Ck,ht.over]
  refine ⟨_,rfl,_,rfl,_,rfl,.ref a,q,.ref dp,n,ws,rs,.tuple (os.map oD),rfl,s12.den _ _ hx,hb,s12.seqT hq,hro,hden _ s12,fun H13 s13=>?_⟩
  rw [aFg ht.dealt]
  refine ⟨true,true,rfl,rfl,_,rfl,?_⟩
  refine cE ?_
  have s013:=s12.trans s13
  refine ⟨_,rfl,_,rfl,_,rfl,_,rfl,.ref a,q,sp,n,ws,rs,ls,((os.count none:Nat):Int),rfl,s013.den _ _ hx,hb,s013.seqT hq,hro,SqT.of (s013 _ _ hsp),by omega,fun H14 s14=>?_⟩
  rw [hbar,decide_eq_true (Dm _)]
  refine ⟨true,true,rfl,rfl,_,rfl,?_⟩
  refine cE ?_
  have s014:=s013.trans s14
  have hd14:SqT K H14 dp (os.map oV):=SqT.of (s014 _ _ hdp)
  refine ⟨_,rfl,dp,rfl,⟨_,hd14⟩,gA (K:=K) (a:=dp) (xs:=os.map oV) (fun σ=>∃ v,σ = [v]) (fun i zs H15=>H15=H14/\zs.length<=i/\∀ z∈zs,∃ h,z=V.int h/\some h∈os) (cZ (by rw [Ac]; omega)) ⟨none,rfl⟩ ⟨rfl,Ai _,fun _ h=>(Ap h).elim⟩ (fun i zs H15 z=>z.2.1) (fun i zs H15 z=>by rw [z.1]; exact hd14) ?_ ?_⟩
  ·rintro i zs σ u H15 hu ⟨v0,rfl⟩ ⟨rfl,hzl,hzs⟩ hz
   rw [Af] at hu
   obtain ⟨o,ho,rfl⟩:∃ o,os[i]?=some o/\oV o=u:=by
    cases q:os[i]? with
    | none=>rw [q] at hu; cases hu
    | some o=>rw [q] at hu; exact ⟨o,rfl,Option.some.inj hu⟩
   refine ⟨_,rfl,rfl,_,rfl,?_⟩
   cases o with
   | none =>
    refine cE ?_
    exact ⟨⟨_,rfl⟩,rfl,by omega,hzs⟩
   | some j =>
    refine eR ?_
    refine ⟨_,rfl,hz,⟨_,rfl⟩,rfl,by rw [Aq]; exact Cs hzl,fun z hz'=>?_⟩
    rcases Bp.mp hz' with h | h
    ·exact hzs z h
    ·exact ⟨j,An.mp h,Ah ho⟩
  rintro zs15 H15 ⟨rfl,_,hz15⟩ l15 hl15
  have s15:=s014.trans (aE.new (o:=.lst zs15) hl15)
  have e15:upd H15 l15 (.lst zs15) l15=some (.lst zs15):=aB
  generalize upd H15 l15 (.lst zs15)=H16 at s15 e15 ⊢
  refine ⟨1,rfl,_,rfl,l15,zs15,rfl,SqL.of e15,fun cp hcp=>?_⟩
  generalize hcut:mJ zs15 (some (-1)) none=xs17
  have s17:=s15.trans (aE.new (o:=.lst xs17) hcp)
  have e17:upd H16 cp (.lst xs17) cp=some (.lst xs17):=aB
  generalize upd H16 cp (.lst xs17)=H17 at s17 e17 ⊢
  have hxs:∀ z∈xs17,∃ h,z=V.int h/\some h∈os:=fun z hz=>hz15 z (aCo (by rw [<- hcut] at hz; exact hz))
  refine ⟨cp,rfl,⟨_,SqL.of e17⟩,kD (K:=K) (a:=cp) (xs:=xs17) (fun j σ H18=>(∃ v7 v8 v9,σ = [some (.ref a),some (.ref q),some (.ref tp),some (.ref dp),some (.ref sp),some (.int (os.count none:Nat)),some (.ref l9),v7,v8,v9])/\aE H H18/\H18 cp=some (.lst xs17)) ⟨⟨_,_,_,rfl⟩,s17,e17⟩ (fun j σ H18 _ z=>SqL.of z.2.2) ?_ ?_⟩
  ·rintro j y σ H18 hy ⟨⟨v7,v8,v9,rfl⟩,s18,e18⟩
   obtain ⟨h,rfl,hh⟩:=hxs y (Ah hy)
   have hhn:0<=h/\h < n:=by
    obtain ⟨jh,hjh⟩:=Bb.mp hh
    have hjl:jh < ws.length:=by rw [<- hol]; exact (Ad.mp hjh).1
    have hl:=Ae hjl
    exact (bL (hws _ (Ah hl))).2.1 h (ht.dealt.2.1 jh h _ hjh hl)
   obtain ⟨m,rfl⟩:∃ m:Nat,h=m:=⟨h.toNat,by omega⟩
   have hd18:SqT K H18 dp (os.map oV):=SqT.of (s18 _ _ hdp)
   refine ⟨_,rfl,dp,rfl,⟨_,hd18⟩,gA (K:=K) (a:=dp) (xs:=os.map oV) (fun σ=>∃ v,σ = [v,some (.int (m:Int))]) (fun i zs H19=>H19=H18/\zs.length=(os.take i).count (some (m:Int))) (cZ (by rw [Ac]; omega)) ⟨none,rfl⟩ ⟨rfl,rfl⟩ (fun i zs H19 z=>by rw [z.2]; exact At (De) (by rw [Ax]; omega)) (fun i zs H19 z=>by rw [z.1]; exact hd18) ?_ ?_⟩
   ·rintro i zs σ u H19 hu ⟨v0,rfl⟩ ⟨rfl,hzl⟩ hz
    rw [Af] at hu
    obtain ⟨o,ho,rfl⟩:∃ o,os[i]?=some o/\oV o=u:=by
     cases q:os[i]? with
     | none=>rw [q] at hu; cases hu
     | some o=>rw [q] at hu; exact ⟨o,rfl,Option.some.inj hu⟩
    have etk:os.take (i+1)=os.take i++[o]:=by rw [Bm,ho]; rfl
    cases o with
    | none =>
     refine ⟨_,rfl,_,rfl,rfl,_,rfl,?_⟩
     refine cE ?_
     exact ⟨⟨_,rfl⟩,rfl,by rw [etk,Cz,hzl]; rfl⟩
    | some t =>
     refine ⟨_,rfl,_,rfl,rfl,_,rfl,?_⟩
     show if decide (V.int t=V.int (m:Int))=true then _ else _
     rw [pP]
     refine cF (fun c=>?_) (fun c=>?_)
     ·refine ⟨_,rfl,hz,⟨_,rfl⟩,rfl,?_⟩
      rw [etk,Cz,Aq,hzl,eq_of_beq c]
      simp
     ·refine ⟨⟨_,rfl⟩,rfl,?_⟩
      have hne:t≠(m:Int):=fun z=>c (by rw [z]; simp)
      rw [etk,Cz,hzl]
      simp [hne]
   rintro zs19 H19 ⟨rfl,hz19⟩ l19 hl19
   rw [Ac,Bi (Ai _)] at hz19
   have s20:=s18.trans (aE.new (o:=.lst zs19) hl19)
   have e20:=(aE.new (o:=.lst zs19) hl19) _ _ e18
   refine ⟨l19,_,rfl,.inl (SqL.of aB),?_⟩
   rw [hz19]
   generalize upd H19 l19 (.lst zs19)=H20 at s20 e20 ⊢
   have hc1:1<=os.count (some (m:Int)):=Gs.mpr hh
   have hc2:os.count (some (m:Int))<=os.length:=De
   generalize hc:os.count (some (m:Int))=c at hc1 hc2 ⊢
   refine ⟨_,rfl,_,rfl,_,rfl,q,_,rfl,s20.seqT hq,fun p1 H21 s21 hp1=>?_⟩
   rw [aAw] at hp1
   refine ⟨_,rfl,_,_,rfl,rfl,sz1 _,fun p2 hp2=>?_⟩
   have s22:=s21.trans (aE.new (o:=.tup [V.int ((c:Int) - 1)]) hp2)
   have hp1':=(aE.new (o:=.tup [V.int ((c:Int) - 1)]) hp2).seqT hp1
   have hp2':SqT K (upd H21 p2 (.tup [V.int ((c:Int) - 1)])) p2 [V.int ((c:Int) - 1)]:=SqT.of aB
   have s022:=s20.trans s22
   have e22:=s22 _ _ e20
   generalize upd H21 p2 (.tup [V.int ((c:Int) - 1)])=H22 at s22 s022 hp1' hp2' e22 ⊢
   have hrl:rs.length=n.toNat:=hro.1
   refine ⟨p1,p2,_,_,rfl,rfl,hp1',hp2',?_,fun p3 H23 s23 hp3=>?_⟩
   ·rw [Ax,Ac,sizeLine_eq]; simp; omega
   have s023:=s022.trans s23
   refine ⟨_,rfl,_,rfl,_,_,rfl,rfl,_,rfl,q,_,rfl,s023.seqT hq,fun p4 H24 s24 hp4=>?_⟩
   have hp4':SqT K H24 p4 ((rs.map V.int).drop (m+1)):=by
    have e:=tQ (rs.map V.int) (m+1)
    rw [<- e]
    exact hp4
   refine ⟨p3,p4,_,_,rfl,rfl,s24.seqT hp3,hp4',?_,fun p5 H25 s25 hp5=>?_⟩
   ·rw [Aq,Ax,Cn,Ac,sizeLine_eq]; simp; omega
   have s025:=(s023.trans s24).trans s25
   have e25:=s25 _ _ (s24 _ _ (s23 _ _ e22))
   have hmr:m < rs.length:=by omega
   have eset:(rs.map V.int).take m++[V.int ((c:Int) - 1)]++(rs.map V.int).drop (m+1)=(rs.set m ((c:Int) - 1)).map V.int:=by
    rw [Gd,Dd,if_pos (by rw [Ac]; exact hmr),El]
    rfl
   rw [eset] at hp5
   have hro':eC n (rs.set m ((c:Int) - 1)):=by
    refine ⟨by rw [Cp]; exact hro.1,fun r hr=>?_⟩
    rcases Ff hr with z | z
    ·exact hro.2 r z
    ·omega
   have hnot:gW ws (rs.set m ((c:Int) - 1)) (.tuple (os.map oD))=false:=by
    refine aDk (j:=m) (by rw [Cp]; exact hmr) ?_
    rw [hc,Bc,Eh hmr]
    show (c:Int) - 1 < _
    omega
   refine ⟨_,rfl,_,rfl,_,rfl,.ref a,p5,.ref dp,n,ws,rs.set m ((c:Int) - 1),.tuple (os.map oD),rfl,s025.den _ _ hx,hb,hp5,hro',hden _ s025,fun H26 s26=>?_⟩
   rw [hnot]
   refine ⟨false,false,rfl,rfl,_,rfl,?_⟩
   refine cE ?_
   exact ⟨⟨_,_,_,rfl⟩,s025.trans s26,s26 _ _ e25⟩
  ·rintro σ H18 ⟨⟨v7,v8,v9,rfl⟩,s18,e18⟩
   refine ⟨_,rfl,_,rfl,_,rfl,_,rfl,_,_,rfl,rfl,.ref a,q,sp,n,ws,rs,ls,((os.count none:Nat):Int)+1,rfl,s18.den _ _ hx,hb,s18.seqT hq,hro,SqT.of (s18 _ _ hsp),by omega,fun H19 s19=>?_⟩
   rw [hbar,decide_eq_false (show ¬ ((os.count none:Nat):Int)+1<=((os.count none:Nat):Int) by omega)]
   refine ⟨false,false,rfl,rfl,_,rfl,?_⟩
   refine cE ?_
   exact ⟨_,rfl,k _ (s18.trans s19)⟩
def LvD (m:Nat) (d:PyData):Prop:=d.showable=true/\d.depth<=m/\d.shown.length<=40*20^m
theorem LvD.up {m m':Nat} {d:PyData} (h:LvD m d) (l:m<=m'):LvD m' d:=⟨h.1,At h.2.1 l,At h.2.2 (Fd (Ai _) (Nat.pow_le_pow_right (by decide) l))⟩
theorem aDm {i:Int} (h:i.natAbs < 10^38):LvD 0 (.int i):=by
 refine ⟨?_,by unfold PyData.depth; exact Ai _,?_⟩
 ·unfold PyData.showable
  refine decide_eq_true ?_
  by_cases z:i.natAbs=0
  ·rw [z]; decide
  ·have:i.natAbs.log2 < 128:=(Nat.log2_lt z).mpr (Au h (by decide))
   omega
 ·have e:=int_text_length_le10 (a:=i) (k:=38) (by decide) h
  rw [PyData.shown]
  show (Str.ofString (toString i)).length<=_
  rw [ofString_length]
  omega
theorem lC {m:Nat}:∀ {ds:List PyData},(∀ d∈ds,d.depth<=m)->PyData.depthAll ds<=m
 | [],_=>by unfold PyData.depthAll; exact Bo _
 | d::ds,h=>by unfold PyData.depthAll; exact Nat.max_le.mpr ⟨h d (Ao ..),lC fun e he=>h e (Av _ he)⟩
theorem iM:∀ {ds:List PyData},(∀ d∈ds,d.showable=true)->PyData.showableAll ds=true
 | [],_=>by rw [PyData.showableAll]
 | d::ds,h=>by rw [PyData.showableAll,h d (Ao ..),iM fun e he=>h e (Av _ he)]; rfl
theorem uP {m:Nat} {ds:List PyData} (h:∀ d∈ds,d.shown.length<=m):piled (PyData.shownAll ds)<=(m+2)*ds.length:=by
 have e:=nT (fun d:PyData=>d) ds
 rw [List.map_id'] at e
 rw [e]
 exact uD _ m ds h
theorem aDn {m n k:Nat} (l:k<=3+(40*20^m+2)*n) (hn:n<=15):k<=40*20^(m+1):=by
 have h1:1<=20^m:=Nat.one_le_pow _ _ (by decide)
 have h2:(40*20^m+2)*n<=(40*20^m+2)*15:=Fd (Ai _) hn
 rw [Nat.pow_succ]
 omega
theorem aDo {tA tB:TT} {σ:St} {H:Hp} {Q:Bool->Hp->Prop} (hA:∀ R:Bool->Hp->Prop,(∀ b,R b H)->tA σ H R) (hB:∀ R:Bool->Hp->Prop,(∀ b,R b H)->tB σ H R) (h:∀ b,Q b H):aDw tA tB σ H Q:=by
 refine hA _ fun b=>?_
 cases b with
 | false=>exact cE (h false)
 | true=>exact eR (hB _ h)
theorem aBS (v:V):(!decide (v=v))=false:=by simp
theorem wE {m:Nat} {ds:List PyData} (h:∀ d∈ds,LvD m d) (hn:ds.length<=15):LvD (m+1) (.tuple ds)/\LvD (m+1) (.list ds):=by
 refine ⟨⟨?_,?_,?_⟩,⟨?_,?_,?_⟩⟩
 ·rw [PyData.showable]; exact iM fun d hd=>(h d hd).1
 ·unfold PyData.depth; exact Cs (lC fun d hd=>(h d hd).2.1)
 ·rw [PyData.shown]
  exact aDn (At (aBJ _) (Et (uP fun d hd=>(h d hd).2.2) _)) hn
 ·rw [PyData.showable]; exact iM fun d hd=>(h d hd).1
 ·unfold PyData.depth; exact Cs (lC fun d hd=>(h d hd).2.1)
 ·rw [PyData.shown]
  exact aDn (At (aC4 _) (At (Et (uP fun d hd=>(h d hd).2.2) 2) (by omega))) hn
theorem aA2 {l:List Int} (h:∀ x∈l,x.natAbs < 10^38) (hn:l.length<=15):LvD 1 (.tuple (l.map .int)):=(wE (m:=0) (fun d hd=>by
 obtain ⟨i,hi,rfl⟩:=Bd.mp hd
 exact aDm (h i hi)) (by rw [Ac]; exact hn)).1
def nX (n:Int) (ws:List (List Int)) (rs:List Int):PyData:=.list [bD n ws,.tuple (rs.map .int)]
theorem aEj {n:Int} {ws:List (List Int)} {rs:List Int} (hb:bU (bD n ws)=true) (hr:eC n rs):LvD 4 (nX n ws rs):=by
 obtain ⟨hn1,hn6,hw12,hws⟩:=bG hb
 have h1:LvD 2 (.tuple (ws.map bF)):=(wE (m:=1) (fun d hd=>by
  obtain ⟨l,hl,rfl⟩:=Bd.mp hd
  obtain ⟨_,w2,w3⟩:=bL (hws l hl)
  exact aA2 (fun x hx=>by have:=w2 x hx; omega) (by have:=eQ (by omega) w2 w3; omega)) (by rw [Ac]; omega)).1
 have h2:LvD 3 (bD n ws):=(wE (m:=2) (fun d hd=>by
  rcases Am.mp hd with rfl | hd
  ·exact (aDm (by omega)).up (by decide)
  ·rw [An.mp hd]; exact h1) (by simp)).1
 refine (wE (m:=3) (fun d hd=>?_) (by simp)).2
 rcases Am.mp hd with rfl | hd
 ·exact h2
 ·rw [An.mp hd]
  exact (aA2 (fun x hx=>by have:=hr.2 x hx; omega) (by rw [hr.1]; omega)).up (by decide)
theorem mG {p:Int->Bool} {f:List Int->Bool}:∀ {ws:List (List Int)} {hs:List Int},hs.length=ws.length->(∀ (i:Nat) (l:List Int) (h:Int),ws[i]?=some l->hs[i]?=some h->f l=true->p h=true)->(((ws.filter f).length:Nat):Int)<=inS p hs
 | [],[],_,_=>Dm _
 | l::ws,h::hs,hl,hq=>by
  have ih:=mG (p:=p) (f:=f) (ws:=ws) (hs:=hs) (by simpa using hl) fun i a b ha hb=>hq (i+1) a b (by simpa using ha) (by simpa using hb)
  have h0:=hq 0 l h rfl rfl
  show _<=(if p h then (1:Int) else 0)+inS p hs
  cases hf:f l with
  | true=>rw [Cd hf,if_pos (h0 hf),Bg]; omega
  | false =>
   rw [Ce (by rw [hf]; decide)]
   split <;> omega
 | [],_::_,hl,_=>by simp at hl
 | _::_,[],hl,_=>by simp at hl
theorem sK {n:Int} {ws:List (List Int)} {hs:List Int} (hb:bU (bD n ws)=true) (hd:gR ws (gQ hs)=true):∀ h∈hs,0<=h/\h < n:=fun h hh=>by
 obtain ⟨_,_,_,hws⟩:=bG hb
 obtain ⟨hl,hm⟩:=cX hd
 obtain ⟨i,hi⟩:=Bb.mp hh
 have hlt:i < ws.length:=by rw [<- hl]; exact (Ad.mp hi).1
 have e:=Ae hlt
 exact (bL (hws _ (Ah e))).2.1 h (hm i h _ hi e)
theorem aAl {n:Int} {ws:List (List Int)} {hs hs' lv:List Int} (hb:bU (bD n ws)=true) (hd:gR ws (gQ hs)=true) (hd':gR ws (gQ hs')=true) (L:gT n ws hs lv) (t:Int):ex t (cC n hs)<=ex t (cC n hs'):=by
 obtain ⟨hl,hm⟩:=cX hd
 obtain ⟨hl',hm'⟩:=cX hd'
 refine aBL L (sK hb hd) (sK hb hd') (by omega) (fun i u hu=>?_) t
 have hlt:i < ws.length:=by rw [<- hl']; exact (Ad.mp hu).1
 have e:=Ae hlt
 exact ⟨_,e,hm' i u _ hu e⟩
theorem uQ {n:Int} {ws:List (List Int)} {rs hs ls:List Int} {os:List (Option Int)} (hb:bU (bD n ws)=true) (hd:gR ws (gQ hs)=true) (hle:∀ h:Int,0<=h->h < n->((hs.count h:Nat):Int)<=rs.getD h.toNat 0) (T:ToldR n ws rs os ls):os.count none=0:=by
 have hr:=sK hb hd
 obtain ⟨hl,hm⟩:=cX hd
 have els:ls=lT n ls:=oU T.rise (uM n ls) fun k=>by
  rw [nW]
  exact ⟨fun h=>⟨T.rng k h,h⟩,fun h=>h.2⟩
 have e1:=mG (p:=fun h=>decide (h∈ls)) (f:=fun l=>l.all fun h=>ls.any (·==h)) hl fun i l h h1 h2 h3=>by
  obtain ⟨x,hx,ex⟩:=Cj.mp (Bf.mp h3 h (hm i h l h2 h1))
  rw [<- eq_of_beq ex]
  exact decide_eq_true hx
 have e2:=jK (n:=n) (fun h=>decide (h∈ls)) hr
 have e3:bE ((cG n.toNat).map fun h=>if (decide (h∈ls))=true then ((hs.count h:Nat):Int) else 0)<=bE ((cG n.toNat).map fun h=>if (decide (h∈ls))=true then rs.getD h.toNat 0 else 0):=sD fun h hh=>by
  unfold cG at hh
  obtain ⟨i,hi,rfl⟩:=Bd.mp hh
  have:=Br.mp hi
  by_cases q:(i:Int)∈ls
  ·rw [decide_eq_true q,if_pos rfl,if_pos rfl]
   exact hle _ (by omega) (by omega)
  ·rw [decide_eq_false q,if_neg Ar,if_neg Ar]
   exact Dm _
 have e4:bE (ls.map fun h=>rs.getD h.toNat 0)=bE ((cG n.toNat).map fun h=>if (decide (h∈ls))=true then rs.getD h.toNat 0 else 0):=by
  conv=>lhs; rw [els]
  unfold lT
  exact mX _
 have e5:=T.over
 unfold sF at e5
 omega
theorem aDp {n:Int} {ws:List (List Int)} {ls:List Int} {os:List (Option Int)} (hb:bU (bD n ws)=true) (T:ToldR n ws (List.replicate n.toNat 0) os ls):os.count none=ws.length:=by
 obtain ⟨_,_,_,hws⟩:=bG hb
 rw [<- T.dealt.1]
 refine List.count_eq_length.mpr fun o ho=>?_
 cases o with
 | none=>rfl
 | some h =>
  exfalso
  obtain ⟨j,hj⟩:=Bb.mp ho
  have hlt:j < ws.length:=by rw [<- T.dealt.1]; exact (Ad.mp hj).1
  have e:=Ae hlt
  obtain ⟨h0,h1⟩:=(bL (hws _ (Ah e))).2.1 h (T.dealt.2.1 j h _ hj e)
  have:=T.dealt.2.2 h.toNat (by rw [Bn]; omega)
  rw [show ((h.toNat:Nat):Int)=h by omega,Bc,Bx,if_pos (by omega)] at this
  have hc:1<=os.count (some h):=Gs.mpr ho
  have this:((os.count (some h):Nat):Int)<=0:=this
  omega
theorem yK:∀ {os:List (Option Int)},os.count none=0->∃ hs:List Int,os=hs.map some
 | [],_=>⟨[],rfl⟩
 | none::os,h=>by simp at h
 | some x::os,h=>by
  obtain ⟨hs,rfl⟩:=yK (os:=os) (by simpa using h)
  exact ⟨x::hs,rfl⟩
theorem aAm (hs:List Int) (h:Int):(hs.map some).count (some h)=hs.count h:=by
 induction hs with
 | nil=>rfl
 | cons x hs ih =>
  rw [Ba,Ca,Ca,ih]
  congr 1
theorem aBT {n m:Int} {ws:List (List Int)} {hs lv ms ls:List Int} {os:List (Option Int)} (hb:bU (bD n ws)=true) (hd:gR ws (gQ hs)=true) (L:gT n ws hs lv) (hp:(m::ms).Perm (cC n hs)) (T:ToldR n ws (List.replicate n.toNat (m - 1)) os ls):os.count none≠0:=by
 intro hz
 obtain ⟨hs',rfl⟩:=yK hz
 have hd':gR ws (gQ hs')=true:=pZ (by have:=T.dealt.1; rwa [Ac] at this) fun j h l e1 e2=>T.dealt.2.1 j h l (by rw [Af,e1]; rfl) e2
 have h1:=aAl hb hd hd' L (m - 1)
 have h2:ex (m - 1) (cC n hs')=0:=aEc fun x hx=>by
  unfold cC at hx
  obtain ⟨i,hi,rfl⟩:=Bd.mp hx
  unfold cG at hi
  obtain ⟨j,hj,rfl⟩:=Bd.mp hi
  have hj:=Br.mp hj
  have:=T.dealt.2.2 j (by rw [Bn]; exact hj)
  rw [aAm,Bc,Bx,if_pos hj] at this
  exact this
 rw [<- aEb hp,h2] at h1
 have h3:=uF (m - 1) ms
 have h4:ex (m - 1) (m::ms)=max (m - (m - 1)) 0+ex (m - 1) ms:=rfl
 omega
theorem nY (k:Nat) (m:Int):(List.replicate k [V.int m]).flatten=(List.replicate k m).map V.int:=by rw [Eg,Gr]
theorem lP {n m:Int} (h0:0<=m) (h1:m<=12):eC n (List.replicate n.toNat m):=⟨Bn,fun r hr=>by rw [Dj hr]; exact ⟨h0,h1⟩⟩
theorem aDq {n m h:Int} (h0:0<=h) (h1:h < n):(List.replicate n.toNat m).getD h.toNat 0=m:=by
 rw [Bc,Bx,if_pos (by omega)]; rfl
theorem nZ:∀ {L M:List (List Int)},PyData.eqvAll (L.map bF) (M.map bF)=true->L=M
 | [],[],_=>rfl
 | [],_::_,h=>by simp [PyData.eqvAll] at h
 | _::_,[],h=>by simp [PyData.eqvAll] at h
 | l::L,m::M,h=>by
  rw [Ba,Ba,PyData.eqvAll,Az] at h
  have h1:PyData.eqv (.tuple (l.map .int)) (.tuple (m.map .int))=true:=h.1
  rw [uA,decide_eq_true_iff] at h1
  rw [h1,nZ h.2]
theorem aDr {n:Int} {L M:List (List Int)} (h:PyData.eqv (bD n L) (bD n M)=true):L=M:=by
 unfold bD at h
 rw [PyData.eqv,PyData.eqvAll,Az,PyData.eqvAll,Az,PyData.eqv] at h
 exact nZ h.2.1
def jY (K:PySem.W.Frag) (n:Int) (ws:List (List Int)) (H:Hp) (v:V):Prop:=∃ (r q:Addr) (rs:List Int) (dv:V),v=.ref r/\SqT K H r [.ref q,dv]/\SqT K H q (rs.map V.int)/\eC n rs/\(dv=.non∨∃ m:Nat,dv=.int m/\∀ os ls,ToldR n ws rs os ls->os.count none=m)
theorem jY.same {K:PySem.W.Frag} {n:Int} {ws:List (List Int)} {H H':Hp} {v:V} (h:jY K n ws H v) (s:aE H H'):jY K n ws H' v:=let ⟨r,q,rs,dv,h1,h2,h3,h4⟩:=h; ⟨r,q,rs,dv,h1,s.seqT h2,s.seqT h3,h4⟩
theorem jY.but {K:PySem.W.Frag} {n:Int} {ws:List (List Int)} {H H':Hp} {v:V} {t:Addr} {xs:List V} (h:jY K n ws H v) (e:But t H H') (ht:H t=some (.lst xs)):jY K n ws H' v:=let ⟨r,q,rs,dv,h1,h2,h3,h4⟩:=h; ⟨r,q,rs,dv,h1,e.seqT ht h2,e.seqT ht h3,h4⟩
theorem aFh {tA tB:TT} {σ:St} {H:Hp} {Q:Bool->Hp->Prop} (hA:∀ R:Bool->Hp->Prop,R false H->tA σ H R) (hB:tB σ H Q):tOr tA tB σ H Q:=hA _ (cE hB)
theorem yL (n:Int) (ws:List (List Int)) (rs:List Int):(nX n ws rs).canLay0=true:=by
 unfold nX
 rw [PyData.canLay0,PyData.canLayAll0,PyData.canLayAll0,PyData.canLayAll0,gU,hU]
 rfl
theorem aFX:bootBuiltins "max" = some (.builtin "max"):=by decide +kernel
def aA3 (K:PySem.W.Frag) (P1:Addr):Sp:=fun vs H Q _=>∃ (a:Addr) (ns:List Int),vs = [.ref a]/\SqL K H a (ns.map V.int)/\H P1=some (.tab yA)/\∀ H',H' P1=some (.tab yA)->Q (.bl true) H'
theorem hJ:FnScope ["script", "tape", "k", "book", "most", "twin", "each", "wide", "rows", "rooms", "due", "kept", "page", "left", "small"] ["script"] (aH aCR):=⟨rfl,rfl,rfl,by decide +kernel,rfl,by decide +kernel,by decide +kernel⟩
set_option maxHeartbeats 4000000 in
theorem aFi {f fB fDg fO fR fI fE fF P1:Addr} {fd dB dDg dO dR dI dE dF:FuncData} (G:Fn K mg "law" aCR ["script"] f fd) (B:Bl mg)
  (GB:Fn K mg "_law_b_book" aAL ["tape", "hands", "works"] fB dB) (OB:FnOk P w K mg base CX0 4 fB dB ["tape", "hands", "works"] (aCY K))
  (GD:Fn K mg "_law_b_digit" mQ ["tape", "many"] fDg dDg) (OD:FnOk P w K mg base CX0 2 fDg dDg ["tape", "many"] (lJ K))
  (GOt:Fn K mg "_law_b_other" vR ["tape", "book"] fO dO) (OOt:FnOk P w K mg base CX0 3 fO dO ["tape", "book"] (aAZ K))
  (GRt:Fn K mg "_law_b_right" gX ["book", "rooms", "told"] fR dR) (ORt:FnOk P w K mg base CX0 8 fR dR ["book", "rooms", "told"] (aA1 K))
  (GIn:Fn K mg "in_rooms" zQ ["book", "rooms"] fI dI) (OIn:FnOk P w K mg base CX0 7 fI dI ["book", "rooms"] (aEy K))
  (GEv:Fn K mg "evenest" kS ["book"] fE dE) (OEv:FnOk P w K mg base CX0 11 fE dE ["book"] (uG K P1))
  (GFa:Fn K mg "falling" nN ["book", "deal"] fF dF) (OFa:FnOk P w K mg base CX0 8 fF dF ["book", "deal"] (uN K)):FnOk P w K mg base CX0 12 f fd ["script"] (aA3 K P1):=by
 refine G.fn.ok hJ (fun vs H Q E h=>?_) (fun cdv A outer s H vs Q E hr h=>?_)
 ·obtain ⟨a,ns,rfl,_⟩:=h
  rfl
 ·obtain ⟨a,ns,rfl,hns,hP1,k⟩:=h
  have r2:Room 2 _:=hr.mono (by decide)
  have r3:Room 3 _:=hr.mono (by decide)
  have r4:Room 4 _:=hr.mono (by decide)
  have r7:Room 7 _:=hr.mono (by decide)
  have r8:Room 8 _:=hr.mono (by decide)
  have r11:Room 11 _:=hr
  refine ⟨_,(aD (aV (i:=1) hJ.nd rfl (Or.inr rfl) (eV (aA (pv 0) (aA aG (aA aG aC)))))
  (aD (eU PassesOwn.never rfl (eE rfl B.range (aA aG aC)) (aI (i:=2) hJ.nd rfl (Or.inl rfl))
   (aD (bJ (PW.pt (jL (aL wK (pv 2) aG (aN _)) (iN (aL qI (bA cI (pv 1) aG (fun _ _=>rfl)) (aK aM rfl B.len cY (aA (pv 0) aC)) (aN _)))))
   (aF wJ)
   aT)
  (aD (aV (i:=3) hJ.nd rfl (Or.inl rfl) (aW GB OB r4 rfl (aA (pv 1) (aA aG (aA aG aC)))))
  (aD (aV (i:=4) hJ.nd rfl (Or.inl rfl) (bA cI (aW GFa OFa r8 rfl (aA (pv 3) (aA (bA bK (aW GEv OEv r11 rfl (aA (pv 3) aC)) aG (fun _ _=>rfl)) aC))) aG (fun _ _=>rfl)))
  (aD (aV (i:=5) hJ.nd rfl (Or.inl rfl) (aW GOt OOt r3 rfl (aA (pv 1) (aA (pv 3) aC))))
  (aD (gF (i:=6) (own:=["hand"]) (fr:=[1]) (frn:=["tape"]) (aU (aH aCR) ["script", "tape", "k", "book", "most", "twin", "each", "wide", "rows", "rooms", "due", "kept", "page", "left", "small"] rfl rfl (by decide +kernel)) rfl hJ.nd rfl rfl rfl (eE rfl B.range (aA (bA bK (pv 3) aG (fun _ _=>rfl)) aC))
    (fun _ _ _ _=>(aI (i:=0) (show (["hand", "tape"]:List Str).Nodup by decide +kernel) rfl (Or.inl rfl))) (fun _ _ _ _=>cT)
    (fun _ _ _ _=>(aW GD OD r2 rfl (aA (pv 1) (aA aG aC)))))
  (aD (gF (i:=7) (own:=["hand"]) (fr:=[1]) (frn:=["tape"]) (aU (aH aCR) ["script", "tape", "k", "book", "most", "twin", "each", "wide", "rows", "rooms", "due", "kept", "page", "left", "small"] rfl rfl (by decide +kernel)) rfl hJ.nd rfl rfl rfl (eE rfl B.range (aA (bA bK (pv 3) aG (fun _ _=>rfl)) aC))
    (fun _ _ _ _=>(aI (i:=0) (show (["hand", "tape"]:List Str).Nodup by decide +kernel) rfl (Or.inl rfl))) (fun _ _ _ _=>cT)
    (fun _ _ _ _=>(aW GD OD r2 rfl (aA (pv 1) (aA aG aC)))))
  (aD (aV (i:=8) hJ.nd rfl (Or.inl rfl) (eV (aA (bX (aA (bH bM rfl B.tuple bT (aA (pv 6) aC)) (aA eF aC))) (aA (bX (aA (bH bM rfl B.tuple bT (aA (pv 7) aC)) (aA eF aC))) (aA (bX (aA (bC (pW (K:=K) rfl) (bX (aA aG aC)) (bA bK (pv 3) aG (fun _ _=>rfl))) (aA (aK aM rfl B.len cY (aA (bA bK (pv 3) aG (fun _ _=>rfl)) aC)) aC))) (aA (bX (aA (bC (pW (K:=K) rfl) (bX (aA aG aC)) (bA bK (pv 3) aG (fun _ _=>rfl))) (aA aG aC))) aC))))))
  (aD (dZ (oZ PySem.F.plainAttrs_list PySem.F.slot_list_append PySem.F.type_list_append hX (pv 8) (aA (bX (aA (bC (pW (K:=K) rfl) (bX (aA (pv 4) aC)) (bA bK (pv 3) aG (fun _ _=>rfl))) (aA aG aC))) aC)))
  (aD (eU PassesOwn.never rfl (gJ (pv 8)) (eG rfl (aO (aI (i:=9) hJ.nd rfl (Or.inl rfl)) (aO (aI (i:=10) hJ.nd rfl (Or.inl rfl)) cH)))
   (aD (aV (i:=11) hJ.nd rfl (Or.inl rfl) (aK (tN hr.gd hr.u64) rfl B.repr aCP (aA (eV (aA (pv 3) (aA (pv 9) aC))) aC)))
  (aF (eU PassesOwn.never rfl (gJ (eV (aA (pv 3) (aA (pv 5) aC)))) (aI (i:=12) hJ.nd rfl (Or.inl rfl))
   (aD (aV (i:=13) hJ.nd rfl (Or.inl rfl) (aW GRt ORt r8 rfl (aA (pv 12) (aA (pv 9) (aA (aW GIn OIn r7 rfl (aA (pv 12) (aA (pv 9) aC))) aC)))))
  (aF (bJ (PW.pt (eM (aL yR (pv 13) eF (aN _)) (eM (PW.pt (jL (aL pQ (pv 10) eF (aN _)) (jL (aL (zD hr.u64) (pv 12) (pv 3) (aN _)) (iN (aL iZ (pv 13) (pv 10) (aN _)))))) (dP (aL iZ (aK (tN hr.gd hr.u64) rfl B.repr aCP (aA (eV (aA (pv 3) (aA (pv 9) aC))) aC)) (pv 11) (aN _))))))
   (aF (aQ dM))
   aT)))))))
  (aD (aV (i:=14) hJ.nd rfl (Or.inl rfl) (bC (pW (K:=K) rfl) (bX (aA (aK (aA9 rfl) rfl B.max aFX (aA aG (aA (bC mI (pv 4) aG) aC))) aC)) (bA bK (pv 3) aG (fun _ _=>rfl))))
  (aD (aV (i:=13) hJ.nd rfl (Or.inl rfl) (aW GRt ORt r8 rfl (aA (pv 3) (aA (pv 14) (aA (aW GIn OIn r7 rfl (aA (pv 3) (aA (pv 14) aC))) aC)))))
  (aF (bJ (PW.pt (eM (aL yR (pv 13) eF (aN _)) (dP (PW.pt (jL (aL wK (pv 4) aG (aN _)) (iN (aL iC (pv 13) aG (aN _))))))))
   (aF (aQ dM))
   aT))))))))))))))
  (aF (aQ dM)))),?_⟩
  refine ⟨_,rfl,cZ (show 3<=1000 by decide),fun t ht=>?_⟩
  have hTape:gS K (upd H t (.lst [.ref a,.int 0,.int 0])) t a ns:=⟨⟨0,0,by decide,aB⟩,(aE.new ht).seqL hns⟩
  have nP1:P1≠t:=fun z=>by rw [z,ht] at hP1; cases hP1
  have p1:=(aE.new (o:=.lst [.ref a,.int 0,.int 0]) ht) _ _ hP1
  generalize upd H t (.lst [.ref a,.int 0,.int 0])=H1 at hTape p1 ⊢
  refine ⟨3,rfl,by decide,by decide,oB (lo:=0) (n:=3) (fun i σ H2=>(∃ v2 v3 v4 v5 v6 v7 v8 v9 v10 v11 v12 v13 v14,σ = [some (.ref a),some (.ref t),v2,v3,v4,v5,v6,v7,v8,v9,v10,v11,v12,v13,v14])/\gS K H2 t a ns/\H2 P1=some (.tab yA)) ⟨⟨_,_,_,_,_,_,_,_,_,_,_,_,_,rfl⟩,hTape,p1⟩ ?_ ?_⟩
  ·rintro i σ H2 hi ⟨⟨v2,v3,v4,v5,v6,v7,v8,v9,v10,v11,v12,v13,v14,rfl⟩,T2,e1⟩
   obtain ⟨⟨p2,q2,hp2,ht2⟩,hns2⟩:=id T2
   refine aDo (fun R hR=>⟨_,rfl,_,_,rfl,rfl,_,rfl,hR _⟩) (fun R hR=>⟨_,rfl,t,_,1,.int p2,rfl,rfl,SqL.of ht2,rfl,_,rfl,a,_,rfl,.inl hns2,_,_,rfl,rfl,_,rfl,hR _⟩) (fun b=>?_)
   refine cF (fun _=>?_) (fun _=>?_)
   ·exact k _ e1
   refine ⟨_,rfl,t,a,ns,rfl,T2,fun n ws bp H3 hb b3 T3 hbk=>?_⟩
   obtain ⟨hn1,hn6,hw12,hws⟩:=bG hb
   obtain ⟨bp',bb,ys,ebp,ha,hb2,hys⟩:=cR hbk
   cases ebp
   have hlw:=aP hys
   rw [Ac] at hlw
   have f3:=b3 _ _ nP1 e1
   refine ⟨_,rfl,_,rfl,.ref bp,n,ws,rfl,hbk,hb,f3,fun ep dp lp hs lv H4 s4 hep hdp hd hlp L=>?_⟩
   refine ⟨ep,_,0,.ref dp,rfl,rfl,SqT.of hep,rfl,?_⟩
   refine ⟨.ref bp,.ref dp,n,ws,hs,rfl,⟨s4.den _ _ hbk,hb,aX.mpr ⟨dp,rfl,SqT.of hdp⟩,hd⟩,fun mp H5 ms s5 hmp0 hmp hperm hdesc=>?_⟩
   have hml:ms.length=n.toNat:=by rw [hperm.length_eq,mB]
   obtain ⟨m0,mr,rfl⟩:∃ m0 mr,ms=m0::mr:=by
    cases ms with
    | nil=>rw [Da] at hml; omega
    | cons m0 mr=>exact ⟨m0,mr,rfl⟩
   have hm0:0<=m0/\m0<=12:=by
    have h1:=vX (hperm.mem_iff.mp (Ao ..))
    have h2:=(cX hd).1
    omega
   have hmost:∀ h:Int,0<=h->h < n->((hs.count h:Nat):Int)<=m0:=fun h h0 h1=>by
    have h2:((hs.count h:Nat):Int)∈cC n hs:=by
     unfold cC
     refine Bd.mpr ⟨h,?_,rfl⟩
     unfold cG
     exact Bd.mpr ⟨h.toNat,Br.mpr (by omega),by omega⟩
    rcases Am.mp (hperm.mem_iff.mpr h2) with z | z
    ·omega
    ·exact (Bt.mp hdesc).1 _ z
   refine ⟨mp,_,0,.int m0,rfl,rfl,SqL.of hmp,dJ (j:=0) rfl,?_⟩
   have s45:=s4.trans s5
   have b5:But t H3 H5:=But.of s45
   have T5:=T3.same s45
   refine ⟨_,rfl,_,rfl,t,a,ns,.ref bp,n,ws,rfl,T5,s45.den _ _ hbk,hb,fun tw ws' H6 b6' T6 htw hb'=>?_⟩
   have b6:=b5.trans b6'
   refine ⟨_,rfl,bp,_,0,.int n,rfl,rfl,T3.seqT b6 ha,rfl,n,rfl,by omega,by omega,fQ (lo:=0) (n:=n.toNat) (fun σ=>∃ v,σ = [v,some (.ref t)]) (fun i zs H'=>∃ l:List Int,zs=l.map V.int/\l.length=i/\(∀ x∈l,0<=x/\x < 4)/\But t H6 H'/\gS K H' t a ns) (cZ (by omega)) ⟨none,rfl⟩ ⟨[],rfl,rfl,fun _ h=>(Ap h).elim,But.refl _ _,T6⟩ (fun i zs H' ⟨l,h1,h2,_⟩=>by rw [h1,Ac]; omega) ?_ ?_⟩
   ·rintro i zs σ H' hi ⟨v,rfl⟩ ⟨l,rfl,hl,hlr,b',T'⟩ hz
    refine cW ?_
    refine ⟨_,rfl,t,a,ns,4,rfl,T',by decide,by decide,fun r H'' h0 h1 b'' T''=>⟨hz,⟨_,rfl⟩,l++[r],by rw [Ay]; rfl,by rw [Aq,hl]; rfl,fun x hx=>?_,b'.trans b'',T''⟩⟩
    rcases Bp.mp hx with h | h
    ·exact hlr x h
    ·rw [An.mp h]; exact ⟨h0,h1⟩
   rintro zs7 H7 ⟨l7,rfl,hl7,hr7,b7',T7'⟩ pe hpe
   have s7:=aE.new (o:=.lst (l7.map V.int)) hpe
   have e7:upd H7 pe (.lst (l7.map V.int)) pe=some (.lst (l7.map V.int)):=aB
   have b7:=(b6.trans b7').trans (But.of s7)
   have b7n:=b7'.trans (But.of s7)
   have T7:=T7'.same s7
   generalize upd H7 pe (.lst (l7.map V.int))=H8 at s7 e7 b7 b7n T7 ⊢
   refine ⟨_,rfl,bp,_,0,.int n,rfl,rfl,T3.seqT b7 ha,rfl,n,rfl,by omega,by omega,fQ (lo:=0) (n:=n.toNat) (fun σ=>∃ v,σ = [v,some (.ref t)]) (fun i zs H'=>∃ l:List Int,zs=l.map V.int/\l.length=i/\(∀ x∈l,0<=x/\x < 13)/\But t H8 H'/\gS K H' t a ns) (cZ (by omega)) ⟨none,rfl⟩ ⟨[],rfl,rfl,fun _ h=>(Ap h).elim,But.refl _ _,T7⟩ (fun i zs H' ⟨l,h1,h2,_⟩=>by rw [h1,Ac]; omega) ?_ ?_⟩
   ·rintro i zs σ H' hi ⟨v,rfl⟩ ⟨l,rfl,hl,hlr,b',T'⟩ hz
    refine cW ?_
    refine ⟨_,rfl,t,a,ns,13,rfl,T',by decide,by decide,fun r H'' h0 h1 b'' T''=>⟨hz,⟨_,rfl⟩,l++[r],by rw [Ay]; rfl,by rw [Aq,hl]; rfl,fun x hx=>?_,b'.trans b'',T''⟩⟩
    rcases Bp.mp hx with h | h
    ·exact hlr x h
    ·rw [An.mp h]; exact ⟨h0,h1⟩
   rintro zs9 H9 ⟨l9,rfl,hl9,hr9,b9',T9'⟩ pw hpw
   have s9:=aE.new (o:=.lst (l9.map V.int)) hpw
   have e9:upd H9 pw (.lst (l9.map V.int)) pw=some (.lst (l9.map V.int)):=aB
   have b9:=(b7.trans b9').trans (But.of s9)
   have b9n:=b9'.trans (But.of s9)
   have T9:=T9'.same s9
   generalize upd H9 pw (.lst (l9.map V.int))=H10 at s9 e9 b9 b9n T9 ⊢
   have ha10:=T3.seqT b9 ha
   have hb10:=T3.seqT b9 hb2
   have nep:pe≠t:=fun z=>by
    obtain ⟨⟨_,_,_,z1⟩,_⟩:=T7'
    rw [z,z1] at hpe; cases hpe
   have e7x:=b9n _ _ nep e7
   have f10:=b9 _ _ nP1 f3
   have hbk10:=T3.den b9 (kU n ws) hbk
   have htw10:=(T6.same (aE.refl _)).den (b7n.trans b9n) (kU n ws') htw
   clear b3 T2 T5 b5 s45 b6' T6 b6 b7' T7' b9' T9'
   have hro7:eC n l7:=⟨hl7,fun r hr=>by have:=hr7 r hr; omega⟩
   have hro9:eC n l9:=⟨hl9,fun r hr=>by have:=hr9 r hr; omega⟩
   have hn:n=((n.toNat:Nat):Int):=by omega
   -- the rows
   refine ⟨_,rfl,pe,_,rfl,.inl ⟨SqL.of e7x,fun q1 hq1=>⟨sz2 _ _,fun r1 hr1=>?_⟩⟩⟩
   have s11:=(aE.new (o:=.tup (l7.map V.int)) hq1).trans (aE.new (o:=.tup [.ref q1,.non]) hr1)
   have k1:jY K n ws (upd (upd H10 q1 (.tup (l7.map V.int))) r1 (.tup [.ref q1,.non])) (.ref r1):=⟨r1,q1,l7,.non,rfl,SqT.of aB,SqT.of ((aE.new hr1) _ _ aB),hro7,.inl rfl⟩
   generalize upd (upd H10 q1 (.tup (l7.map V.int))) r1 (.tup [.ref q1,.non])=H11 at s11 k1 ⊢
   refine ⟨_,rfl,pw,_,rfl,.inl ⟨SqL.of (s11 _ _ e9),fun q2 hq2=>⟨sz2 _ _,fun r2 hr2=>?_⟩⟩⟩
   have s12:=(aE.new (o:=.tup (l9.map V.int)) hq2).trans (aE.new (o:=.tup [.ref q2,.non]) hr2)
   have k2:jY K n ws (upd (upd H11 q2 (.tup (l9.map V.int))) r2 (.tup [.ref q2,.non])) (.ref r2):=⟨r2,q2,l9,.non,rfl,SqT.of aB,SqT.of ((aE.new hr2) _ _ aB),hro9,.inl rfl⟩
   have k1:=k1.same s12
   have s012:=s11.trans s12
   generalize upd (upd H11 q2 (.tup (l9.map V.int))) r2 (.tup [.ref q2,.non])=H12 at s012 k1 k2 ⊢
   refine ⟨sz1 _,fun u3 hu3=>?_⟩
   have s13:=aE.new (o:=.tup [.int 0]) hu3
   have c13:SqT K (upd H12 u3 (.tup [.int 0])) u3 [.int 0]:=SqT.of aB
   have s013:=s012.trans s13
   have k1:=k1.same s13
   have k2:=k2.same s13
   generalize upd H12 u3 (.tup [.int 0])=H13 at c13 s013 k1 k2 ⊢
   refine ⟨_,rfl,bp,_,0,.int n,rfl,rfl,s013.seqT ha10,rfl,u3,n.toNat,_,rfl,congrArg V.int hn,c13,by omega,by simp,fun q3 H14 s14 hq3=>?_⟩
   rw [nY] at hq3
   have s014:=s013.trans s14
   refine ⟨_,rfl,bp,_,1,.ref bb,rfl,rfl,s014.seqT ha10,rfl,bb,_,rfl,.inr (s014.seqT hb10),sz2 _ _,fun r3 hr3=>?_⟩
   rw [hlw]
   have s15:=aE.new (o:=.tup [.ref q3,.int (ws.length:Int)]) hr3
   have k3:jY K n ws (upd H14 r3 (.tup [.ref q3,.int (ws.length:Int)])) (.ref r3):=⟨r3,q3,_,_,rfl,SqT.of aB,s15.seqT hq3,lP (by omega) (by omega),.inr ⟨ws.length,rfl,fun os ls T=>aDp hb T⟩⟩
   have s015:=s014.trans s15
   have k1:=k1.same (s14.trans s15)
   have k2:=k2.same (s14.trans s15)
   generalize upd H14 r3 (.tup [.ref q3,.int (ws.length:Int)])=H15 at s015 k1 k2 k3 ⊢
   refine ⟨sz1 _,fun u4 hu4=>?_⟩
   have s16:=aE.new (o:=.tup [.int 12]) hu4
   have c16:SqT K (upd H15 u4 (.tup [.int 12])) u4 [.int 12]:=SqT.of aB
   have s016:=s015.trans s16
   have k1:=k1.same s16
   have k2:=k2.same s16
   have k3:=k3.same s16
   generalize upd H15 u4 (.tup [.int 12])=H16 at c16 s016 k1 k2 k3 ⊢
   refine ⟨_,rfl,bp,_,0,.int n,rfl,rfl,s016.seqT ha10,rfl,u4,n.toNat,_,rfl,congrArg V.int hn,c16,by omega,by simp,fun q4 H17 s17 hq4=>⟨sz2 _ _,fun r4' hr4'=>?_⟩⟩
   rw [nY] at hq4
   have s18:=aE.new (o:=.tup [.ref q4,.int 0]) hr4'
   have k4:jY K n ws (upd H17 r4' (.tup [.ref q4,.int 0])) (.ref r4'):=⟨r4',q4,_,_,rfl,SqT.of aB,s18.seqT hq4,lP (by omega) (by omega),.inr ⟨0,rfl,fun os ls T=>uQ hb hd (fun h h0 h1=>by rw [aDq h0 h1]; have:=hmost h h0 h1; omega) T⟩⟩
   have s178:=s17.trans s18
   have s018:=s016.trans s178
   have k1:=k1.same s178
   have k2:=k2.same s178
   have k3:=k3.same s178
   generalize upd H17 r4' (.tup [.ref q4,.int 0])=H18 at s018 k1 k2 k3 k4 ⊢
   refine ⟨cZ (show 4<=1000 by decide),fun rp hrp=>?_⟩
   have s19:=aE.new (o:=.lst [.ref r1,.ref r2,.ref r3,.ref r4']) hrp
   have e19:upd H18 rp (.lst [.ref r1,.ref r2,.ref r3,.ref r4']) rp=some (.lst [.ref r1,.ref r2,.ref r3,.ref r4']):=aB
   have hrp10:H10 rp=none:=s018.free hrp
   have s019:=s018.trans s19
   have k1:=k1.same s19
   have k2:=k2.same s19
   have k3:=k3.same s19
   have k4:=k4.same s19
   generalize upd H18 rp (.lst [.ref r1,.ref r2,.ref r3,.ref r4'])=H19 at e19 s019 k1 k2 k3 k4 ⊢
   refine ⟨_,rfl,.inl ⟨rfl,_,SqL.of e19⟩,_,rfl,sz1 _,fun u5 hu5=>?_⟩
   have s20:=aE.new (o:=.tup [.int m0]) hu5
   have c20:SqT K (upd H19 u5 (.tup [.int m0])) u5 [.int m0]:=SqT.of aB
   have s020:=s019.trans s20
   have e20:=s20 _ _ e19
   have k1:=k1.same s20
   have k2:=k2.same s20
   have k3:=k3.same s20
   have k4:=k4.same s20
   generalize upd H19 u5 (.tup [.int m0])=H20 at c20 s020 e20 k1 k2 k3 k4 ⊢
   refine ⟨_,rfl,bp,_,0,.int n,rfl,rfl,s020.seqT ha10,rfl,u5,n.toNat,_,rfl,congrArg V.int hn,c20,by omega,by simp,fun q5 H21 s21 hq5=>⟨sz2 _ _,fun r5 hr5=>?_⟩⟩
   rw [nY] at hq5
   have s22:=aE.new (o:=.tup [.ref q5,.int 0]) hr5
   have k5:jY K n ws (upd H21 r5 (.tup [.ref q5,.int 0])) (.ref r5):=⟨r5,q5,_,_,rfl,SqT.of aB,s22.seqT hq5,lP hm0.1 hm0.2,.inr ⟨0,rfl,fun os ls T=>uQ hb hd (fun h h0 h1=>by rw [aDq h0 h1]; exact hmost h h0 h1) T⟩⟩
   have s212:=s21.trans s22
   have s022:=s020.trans s212
   have e22:=s212 _ _ e20
   have k1:=k1.same s212
   have k2:=k2.same s212
   have k3:=k3.same s212
   have k4:=k4.same s212
   generalize upd H21 r5 (.tup [.ref q5,.int 0])=H22 at s022 e22 k1 k2 k3 k4 k5 ⊢
   refine ⟨rp,_,.ref r5,rfl,rfl,e22,cZ (show 4 < 1000 by decide),?_⟩
   have bt23:But rp H22 (upd H22 rp (.lst ([.ref r1,.ref r2,.ref r3,.ref r4']++[.ref r5]))):=fun b o nb hb=>by rw [aJ nb]; exact hb
   have s23:aE H10 (upd H22 rp (.lst ([.ref r1,.ref r2,.ref r3,.ref r4']++[.ref r5]))):=s022.wr hrp10
   have e23:upd H22 rp (.lst ([.ref r1,.ref r2,.ref r3,.ref r4']++[.ref r5])) rp=some (.lst [.ref r1,.ref r2,.ref r3,.ref r4',.ref r5]):=aB
   have hrow:∀ y∈([.ref r1,.ref r2,.ref r3,.ref r4',.ref r5]:List V),jY K n ws (upd H22 rp (.lst ([.ref r1,.ref r2,.ref r3,.ref r4']++[.ref r5]))) y:=fun y hy=>by
    simp only [Am,Ap,or_false] at hy
    rcases hy with rfl | rfl | rfl | rfl | rfl
    ·exact k1.but bt23 e22
    ·exact k2.but bt23 e22
    ·exact k3.but bt23 e22
    ·exact k4.but bt23 e22
    ·exact k5.but bt23 e22
   generalize upd H22 rp (.lst ([.ref r1,.ref r2,.ref r3,.ref r4']++[.ref r5]))=H23 at s23 e23 hrow ⊢
   clear bt23 k1 k2 k3 k4 k5 e22 e20 s022 s212 s020 s019 s018 s178 s016 s015 s014 s013 s012
   have hbk23:=s23.den _ _ hbk10
   have htw23:=s23.den _ _ htw10
   have ha23:=s23.seqT ha10
   have T23:=T9.same s23
   have f23:=s23 _ _ f10
   refine ⟨_,rfl,rp,rfl,⟨_,SqL.of e23⟩,kD (K:=K) (a:=rp) (xs:=[.ref r1,.ref r2,.ref r3,.ref r4',.ref r5]) (fun _ σ H'=>(∃ v9 v10 v11 v12 v13 v14,σ = [some (.ref a),some (.ref t),some (.int (0+(i:Int))),some (.ref bp),some (.int m0),some (.ref tw),some (.ref pe),some (.ref pw),some (.ref rp),v9,v10,v11,v12,v13,v14])/\aE H23 H') ⟨⟨_,_,_,_,_,_,rfl⟩,aE.refl _⟩ (fun _ σ H' _ z=>SqL.of (z.2 _ _ e23)) ?_ ?_⟩
   ·rintro j y σ H24 hy ⟨⟨v9,v10,v11,v12,v13,v14,rfl⟩,s24⟩
    obtain ⟨r,q,rs,dv,rfl,hr',hq',hro,hdue⟩:=(hrow y (Ah hy)).same s24
    have lvk:=aEj hb hro
    have hsz:(nX n ws rs).shown.length<=sizeLine:=At lvk.2.2 (by rw [sizeLine_eq]; decide)
    have hdpt:(nX n ws rs).depth<=60:=At lvk.2.1 (by decide)
    have hcl:=yL n ws rs
    have kept:∀ H' lp,aE H24 H'->H' lp=none->Den K (upd H' lp (.lst [.ref bp,.ref q])) (nX n ws rs) (.ref lp):=fun H' lp sm hlp=>by
     have s':=sm.trans (aE.new (o:=.lst [.ref bp,.ref q]) hlp)
     exact kM.mpr ⟨lp,_,rfl,SqL.of aB,aS.mpr ⟨_,_,rfl,(s24.trans s').den _ _ hbk23,aS.mpr ⟨_,_,rfl,aX.mpr ⟨q,rfl,s'.seqT hq'⟩,aY.mpr rfl⟩⟩⟩
    refine ⟨r,_,rfl,hr',rfl,_,_,rfl,_,_,rfl,rfl,?_⟩
    refine ⟨_,rfl,_,rfl,sz2 _ _,fun lp hlp=>⟨nX n ws rs,lp,rfl,kept H24 lp (aE.refl _) hlp,jI _ hcl,PyData.hasDict_of_canLay _ hcl,lvk.1,hdpt,hsz,?_⟩⟩
    have s25:=aE.new (o:=.lst [.ref bp,.ref q]) hlp
    generalize upd H24 lp (.lst [.ref bp,.ref q])=H25 at s25 ⊢
    refine ⟨_,rfl,_,rfl,sz2 _ _,fun pl hpl=>?_⟩
    have s26:=s25.trans (aE.new (o:=.lst [.ref bp,.ref tw]) hpl)
    have e26:upd H25 pl (.lst [.ref bp,.ref tw]) pl=some (.lst [.ref bp,.ref tw]):=aB
    generalize upd H25 pl (.lst [.ref bp,.ref tw])=H26 at s26 e26 ⊢
    refine ⟨pl,rfl,⟨_,SqL.of e26⟩,kD (K:=K) (a:=pl) (xs:=[.ref bp,.ref tw]) (fun _ σ H'=>(∃ v12 v13 v14,σ = [some (.ref a),some (.ref t),some (.int (0+(i:Int))),some (.ref bp),some (.int m0),some (.ref tw),some (.ref pe),some (.ref pw),some (.ref rp),some (.ref q),some dv,some (.str (nX n ws rs).shown),v12,v13,v14])/\aE H26 H') ⟨⟨_,_,_,rfl⟩,aE.refl _⟩ (fun _ σ H' _ z=>SqL.of (z.2 _ _ e26)) ?_ ?_⟩
    ·rintro j2 y2 σ H27 hy2 ⟨⟨v12,v13,v14,rfl⟩,s27⟩
     have s2427:=s26.trans s27
     have s2327:=s24.trans s2427
     obtain ⟨pg,ws1,rfl,hk1,hb1⟩:∃ pg ws1,y2=.ref pg/\Den K H27 (bD n ws1) (.ref pg)/\bU (bD n ws1)=true:=by
      have hm:=Ah hy2
      simp only [Am,Ap,or_false] at hm
      rcases hm with rfl | rfl
      ·exact ⟨_,_,rfl,s2327.den _ _ hbk23,hb⟩
      ·exact ⟨_,_,rfl,s2327.den _ _ htw23,hb'⟩
     refine ⟨_,rfl,_,rfl,_,rfl,_,rfl,.ref pg,q,n,ws1,rs,rfl,hk1,hb1,s2427.seqT hq',hro,fun ip idp isp os ls H28 s28 hip hidp hisp T28=>?_⟩
     refine ⟨.ref pg,q,ip,idp,isp,n,ws1,rs,os,ls,rfl,s28.den _ _ hk1,hb1,(s2427.trans s28).seqT hq',hro,hip,hidp,hisp,T28,fun H29 s29=>?_⟩
     have s2429:=s2427.trans (s28.trans s29)
     have s2329:=s24.trans s2429
     refine ⟨_,rfl,rfl,_,rfl,?_⟩
     refine cE ?_
     refine aFh (fun R hR=>?_) ?_
     ·rcases hdue with rfl | ⟨m,rfl,hm⟩
      ·refine ⟨_,rfl,rfl,_,rfl,?_⟩
       exact cE hR
      ·refine ⟨_,rfl,rfl,_,rfl,?_⟩
       refine eR ?_
       refine ⟨_,rfl,_,rfl,bD n ws1,bD n ws,(s28.trans s29).den _ _ hk1,s2329.den _ _ hbk23,jI _ (gU n ws1),jI _ (gU n ws),jG (gU n ws1) (At (rZ n ws1) (by decide)),jG (gU n ws) (At (rZ n ws) (by decide)),_,rfl,?_⟩
       refine cF (fun c=>?_) (fun c=>hR)
       have e:=aDr c
       rw [e] at T28
       refine ⟨_,rfl,_,rfl,rfl,_,rfl,?_⟩
       rw [show (!decide (V.int ((os.count none:Nat):Int)=V.int (m:Int)))=false by rw [hm os ls T28]; simp]
       exact hR
     ·refine ⟨_,rfl,_,rfl,sz2 _ _,fun lp2 hlp2=>⟨nX n ws rs,lp2,rfl,kept H29 lp2 s2429 hlp2,jI _ hcl,PyData.hasDict_of_canLay _ hcl,lvk.1,hdpt,hsz,_,rfl,rfl,_,rfl,?_⟩⟩
      rw [aBS]
      refine cE ?_
      exact ⟨⟨_,_,_,rfl⟩,s27.trans ((s28.trans s29).trans (aE.new hlp2))⟩
    ·rintro σ H27 ⟨⟨v12,v13,v14,rfl⟩,s27⟩
     exact ⟨⟨_,_,_,_,_,_,rfl⟩,s24.trans (s26.trans s27)⟩
   ·rintro σ H24 ⟨⟨v9,v10,v11,v12,v13,v14,rfl⟩,s24⟩
    have hmx:0<=(if m0 - 1 > 0 then m0 - 1 else 0)/\(if m0 - 1 > 0 then m0 - 1 else 0)<=12:=by split <;> omega
    have hmy:0 < m0->(if m0 - 1 > 0 then m0 - 1 else 0)=m0 - 1:=fun h=>by split <;> omega
    refine ⟨_,rfl,_,_,rfl,rfl,0,m0 - 1,rfl,sz1 _,fun u6 hu6=>?_⟩
    generalize (if m0 - 1 > 0 then m0 - 1 else 0)=mx at hmx hmy hu6 ⊢
    have s25:=s24.trans (aE.new (o:=.tup [.int mx]) hu6)
    have c25:SqT K (upd H24 u6 (.tup [.int mx])) u6 [.int mx]:=SqT.of aB
    generalize upd H24 u6 (.tup [.int mx])=H25 at s25 c25 ⊢
    refine ⟨_,rfl,bp,_,0,.int n,rfl,rfl,s25.seqT ha23,rfl,u6,n.toNat,_,rfl,congrArg V.int hn,c25,by omega,by simp,fun q6 H26 s26 hq6=>?_⟩
    rw [nY] at hq6
    have s026:=s25.trans s26
    have hro6:eC n (List.replicate n.toNat mx):=lP hmx.1 hmx.2
    refine ⟨_,rfl,_,rfl,_,rfl,_,rfl,.ref bp,q6,n,ws,_,rfl,s026.den _ _ hbk23,hb,hq6,hro6,fun ip idp isp os ls H28 s28 hip hidp hisp T28=>?_⟩
    refine ⟨.ref bp,q6,ip,idp,isp,n,ws,_,os,ls,rfl,(s026.trans s28).den _ _ hbk23,hb,s28.seqT hq6,hro6,hip,hidp,hisp,T28,fun H29 s29=>?_⟩
    have s029:=(s026.trans s28).trans s29
    refine ⟨_,rfl,rfl,_,rfl,?_⟩
    refine cE ?_
    refine uK (decide (m0 > 0)) false (fun R hR=>⟨_,rfl,_,_,rfl,rfl,_,rfl,hR⟩) (fun h0 R hR=>?_) ?_
    ·refine ⟨_,rfl,rfl,_,rfl,?_⟩
     have h0':0 < m0:=of_decide_eq_true h0
     rw [hmy h0'] at T28
     have:=aBT hb hd L hperm T28
     rw [show decide (V.int ((os.count none:Nat):Int)=V.int 0)=false by rw [decide_eq_false_iff_not]; intro z; injection z with z; omega]
     exact hR
    ·rw [Dp]
     refine cE ?_
     exact ⟨⟨_,_,_,_,_,_,_,_,_,_,_,_,_,rfl⟩,T23.same s029,s029 _ _ f23⟩
  ·rintro σ H2 ⟨_,_,e1⟩
   exact k _ e1
end
end Ab
namespace Ab
open PySem L2 PyProof.Rows
theorem cK {K:PySem.W.Frag} {h:Heap} {mg:Str->Option Value} (X:K.In h) (G:h.Ns mainGlobals mg) {x:Str} {st:Stmt} {ps:List Str} {f:Addr} {oc:Value} {od an:Option Addr} {osl:Array (Option Value)} {kV doc pm cdv ct:Value}
  (hb:∀ (kV doc pm:Value) (an:Option Addr) (cdv ct:Value) (us:List Value),us.length=ps.length->bindArgs (PySem.W.fnOf x x (iO st) (gK st) (aH st) .none kV doc pm an cdv ct) ⟨us,[]⟩=pure (ps.zip us))
  (a:PySem.W.nsIn K mainGlobals x=some (some (.ref f))) (l:K.lookup f=some ⟨oc,od,.func (PySem.W.fnOf x x (iO st) (gK st) (aH st) .none kV doc pm an cdv ct),osl⟩) (c:PySem.W.codeIn K cdv x=true) (k:PySem.W.keepIn K (.ref f)=true) :
  ∃ f fd,Fn K mg x st ps f fd:=by
 have F:=aB9 (st:=st) l c k
 exact ⟨f,_,F,PySem.W.mg_of X G a,k,F.binds hb⟩
theorem aFj {K:PySem.W.Frag} {h:Heap} {mg:Str->Option Value} (X:K.In h) (G:h.Ns mainGlobals mg) {x:Str} {st:Stmt} {ps:List Str} {f:Addr} {oc:Value} {od an:Option Addr} {osl:Array (Option Value)} {kV doc pm cdv ct:Value}
  (hb:∀ (kV doc pm:Value) (an:Option Addr) (cdv ct:Value) (us:List Value),us.length=ps.length->bindArgs (PySem.W.fnOf x x (iO st) (gK st) (aH st) .none kV doc pm an cdv ct) ⟨us,[]⟩=pure (ps.zip us))
  (a:PySem.W.nsIn K mainGlobals x=some (some (.ref f))) (l:K.lookup f=some ⟨oc,od,.func (PySem.W.fnOf x x (iO st) (gK st) (aH st) .none kV doc pm an cdv ct),osl⟩) (c:PySem.W.codeIn K cdv x=true) (k:PySem.W.keepIn K (.ref f)=true) :
  ∃ f fd,Fn K mg x st ps f fd/\fd.code=cdv:=by
 have F:=aB9 (st:=st) l c k
 exact ⟨f,_,⟨F,PySem.W.mg_of X G a,k,F.binds hb⟩,rfl⟩
theorem aFY {K:PySem.W.Frag} {h:Heap} {mg:Str->Option Value} (X:K.In h) (G:h.Ns mainGlobals mg) {t6 t12 tm:Tok}
  (z0:PySem.W.nsIn K mainGlobals "isinstance" = some none)
  (z1:PySem.W.nsIn K mainGlobals "int" = some none)
  (z2:PySem.W.nsIn K mainGlobals "bool" = some none)
  (z3:PySem.W.nsIn K mainGlobals "tuple" = some none)
  (z4:PySem.W.nsIn K mainGlobals "list" = some none)
  (z5:PySem.W.nsIn K mainGlobals "len" = some none)
  (z6:PySem.W.nsIn K mainGlobals "all" = some none)
  (z7:PySem.W.nsIn K mainGlobals "zip" = some none)
  (z8:PySem.W.nsIn K mainGlobals "range" = some none)
  (z9:PySem.W.nsIn K mainGlobals "sorted" = some none)
  (z10:PySem.W.nsIn K mainGlobals "set" = some none)
  (z11:PySem.W.nsIn K mainGlobals "sum" = some none)
  (z12:PySem.W.nsIn K mainGlobals "repr" = some none)
  (z13:PySem.W.nsIn K mainGlobals "enumerate" = some none)
  (z14:PySem.W.nsIn K mainGlobals "min" = some none)
  (z15:PySem.W.nsIn K mainGlobals "any" = some none)
  (z16:PySem.W.nsIn K mainGlobals "max" = some none)
  (zA:PySem.W.nsIn K mainGlobals "MOST_HANDS" = some (some (.int 6 t6))) (zB:PySem.W.nsIn K mainGlobals "MOST_WORKS" = some (some (.int 12 t12))) (zC:PySem.W.nsIn K mainGlobals "MOST_ROOM" = some (some (.int 12 tm))):Bl mg :=
 ⟨PySem.W.mg_none_of X G z0,PySem.W.mg_none_of X G z1,PySem.W.mg_none_of X G z2,PySem.W.mg_none_of X G z3,PySem.W.mg_none_of X G z4,PySem.W.mg_none_of X G z5,PySem.W.mg_none_of X G z6,PySem.W.mg_none_of X G z7,PySem.W.mg_none_of X G z8,PySem.W.mg_none_of X G z9,PySem.W.mg_none_of X G z10,PySem.W.mg_none_of X G z11,PySem.W.mg_none_of X G z12,PySem.W.mg_none_of X G z13,PySem.W.mg_none_of X G z14,PySem.W.mg_none_of X G z15,PySem.W.mg_none_of X G z16,⟨_,PySem.W.mg_of X G zA⟩,⟨_,PySem.W.mg_of X G zB⟩,⟨_,PySem.W.mg_of X G zC⟩⟩
theorem aEk {l:PySem.W.OpenLaw} {w:World} {K:PySem.W.Frag} {mg:Str->Option Value} {fa c Pt:Addr} (hfa:mg "law" = some (.ref fa)) (B:Bl mg)
  (hLO:∃ f fd,Fn K mg "levels_or_way" aCQ ["book", "deal"] f fd/\fd.code=.ref c) (hZ:∀ base:Heap,base.BuiltinsAt mg Pt->Lm K mg base c Pt)
  (hW:∃ f fd,Fn K mg "is_whole" mM ["thing"] f fd)
  (hH:∃ f fd,Fn K mg "are_hands" rC ["thing"] f fd)
  (hKw:∃ f fd,Fn K mg "is_work" rD ["hands", "thing"] f fd)
  (hBP:∃ f fd,Fn K mg "is_book" rE ["thing"] f fd)
  (hDP:∃ f fd,Fn K mg "is_deal" vP ["book", "thing"] f fd)
  (hNB:∃ f fd,Fn K mg "need_book" zO ["book"] f fd)
  (hND:∃ f fd,Fn K mg "need_deal" zP ["book", "deal"] f fd)
  (hC:∃ f fd,Fn K mg "counted" kR ["hands", "deal"] f fd)
  (hL:∃ f fd,Fn K mg "loads" zR ["book", "deal"] f fd)
  (hFA:∃ f fd,Fn K mg "falling" nN ["book", "deal"] f fd)
  (hHD:∃ f fd,Fn K mg "handing" gO ["book", "deal"] f fd)
  (hRC:∃ f fd,Fn K mg "reached" kP ["rows", "first"] f fd)
  (hWT:∃ f fd,Fn K mg "way_to" rF ["found", "last"] f fd)
  (hST:∃ f fd,Fn K mg "is_step" tX ["book", "deal", "step"] f fd)
  (hWY:∃ f fd,Fn K mg "is_way" zS ["book", "deal", "some"] f fd)
  (hNW:∃ f fd,Fn K mg "need_way" vQ ["book", "deal", "some"] f fd)
  (hGO:∃ f fd,Fn K mg "gone" aAJ ["book", "deal", "some"] f fd)
  (hBT:∃ f fd,Fn K mg "bettered" jE ["book", "deal"] f fd)
  (hEV:∃ f fd,Fn K mg "evenest" kS ["book"] f fd)
  (hWI:∃ f fd,Fn K mg "is_within" lI ["able", "some"] f fd)
  (hAR:∃ f fd,Fn K mg "are_rooms" mO ["book", "thing"] f fd)
  (hNR:∃ f fd,Fn K mg "need_rooms" mP ["book", "rooms"] f fd)
  (hIG:∃ f fd,Fn K mg "in_rooms" zQ ["book", "rooms"] f fd)
  (hIR:∃ f fd,Fn K mg "is_in_rooms" kQ ["book", "rooms", "thing"] f fd)
  (hDB:∃ f fd,Fn K mg "do_bar" oN ["book", "rooms", "some", "number"] f fd)
  (hS:∃ f fd,Fn K mg "_law_b_stirred" aAK ["cell", "at"] f fd)
  (hD:∃ f fd,Fn K mg "_law_b_digit" mQ ["tape", "many"] f fd)
  (hWK:∃ f fd,Fn K mg "_law_b_work" tY ["tape", "hands", "kind"] f fd)
  (hBK:∃ f fd,Fn K mg "_law_b_book" aAL ["tape", "hands", "works"] f fd)
  (hNU:∃ f fd,Fn K mg "_law_b_number" nO ["thing"] f fd)
  (hDE:∃ f fd,Fn K mg "_law_b_is_dealt" rG ["book", "rooms", "deal"] f fd)
  (hRT:∃ f fd,Fn K mg "_law_b_right" gX ["book", "rooms", "told"] f fd)
  (hOT:∃ f fd,Fn K mg "_law_b_other" vR ["tape", "book"] f fd)
  (hLW:∃ f fd,Fn K mg "law" aCR ["script"] f fd)
  : ∃ fd:FuncData,(∀ (s:Shared) (v:Value),BindsTo s fd ⟨[v],[]⟩ [("script",v)])/\∀ base:Heap,K.In base->base.Ns mainGlobals mg->base.BuiltinsAt mg Pt->FnOk l.prog w K mg base CX0 12 fa fd ["script"] (aA3 K Pt):=by
 obtain ⟨fLO,dLO,LO,hc⟩:=hLO
 obtain ⟨fW,dW,W⟩:=hW
 obtain ⟨fH,dH,H⟩:=hH
 obtain ⟨fKw,dKw,Kw⟩:=hKw
 obtain ⟨fBP,dBP,BP⟩:=hBP
 obtain ⟨fDP,dDP,DP⟩:=hDP
 obtain ⟨fNB,dNB,NB⟩:=hNB
 obtain ⟨fND,dND,ND⟩:=hND
 obtain ⟨fC,dC,C⟩:=hC
 obtain ⟨fL,dL,L⟩:=hL
 obtain ⟨fFA,dFA,FA⟩:=hFA
 obtain ⟨fHD,dHD,HD⟩:=hHD
 obtain ⟨fRC,dRC,RC⟩:=hRC
 obtain ⟨fWT,dWT,WT⟩:=hWT
 obtain ⟨fST,dST,ST⟩:=hST
 obtain ⟨fWY,dWY,WY⟩:=hWY
 obtain ⟨fNW,dNW,NW⟩:=hNW
 obtain ⟨fGO,dGO,GO⟩:=hGO
 obtain ⟨fBT,dBT,BT⟩:=hBT
 obtain ⟨fEV,dEV,EV⟩:=hEV
 obtain ⟨fWI,dWI,WI⟩:=hWI
 obtain ⟨fAR,dAR,AR⟩:=hAR
 obtain ⟨fNR,dNR,NR⟩:=hNR
 obtain ⟨fIG,dIG,IG⟩:=hIG
 obtain ⟨fIR,dIR,IR⟩:=hIR
 obtain ⟨fDB,dDB,DB⟩:=hDB
 obtain ⟨fS,dS,S⟩:=hS
 obtain ⟨fD,dD,D⟩:=hD
 obtain ⟨fWK,dWK,WK⟩:=hWK
 obtain ⟨fBK,dBK,BK⟩:=hBK
 obtain ⟨fNU,dNU,NU⟩:=hNU
 obtain ⟨fDE,dDE,DE⟩:=hDE
 obtain ⟨fRT,dRT,RT⟩:=hRT
 obtain ⟨fOT,dOT,OT⟩:=hOT
 obtain ⟨fLW,dLW,LW⟩:=hLW
 have e:=hfa.symm.trans LW.mgx
 cases e
 have R:Pr K mg fW fH fKw fBP fNB fDP fND fL dW dH dKw dBP dNB dDP dND dL:=⟨W,H,Kw,BP,NB,DP,ND,⟨fC,dC,C⟩,L⟩
 refine ⟨dLW,fun s v=>?_,fun base _ _ hBu=>?_⟩
 ·obtain ⟨oc,od,kV,doc,pm,an,cdv,ct,osl,rfl,lk,hcd⟩:=LW.fn.ex
  exact .of_eq rfl
 ·have Z:=hZ base hBu
  have OD:FnOk l.prog w K mg base CX0 2 fD dD ["tape", "many"] (lJ K):=aCW D B S
  have OW:FnOk l.prog w K mg base CX0 3 fWK dWK ["tape", "hands", "kind"] (zY K):=aD5 WK B D OD
  have OL:FnOk l.prog w K mg base CX0 8 fLO dLO ["book", "deal"] (aAR K Pt):=aE8 LO hc Z B R HD RC WT
  exact aFi LW B BK (aD6 BK B D OD WK OW) D OD OT (aDi OT B D OD) RT (aDl RT B R DE NU NR AR IR DB WI) IG (aFf IG B R NR AR HD RC WT) EV (aAg EV B R BT (yG BT B LO OL GO (aD9 GO B NW (aC5 NW B R WY ST))) LO OL) FA (aAk FA B R)
theorem walk {l:PySem.W.OpenLaw} {q:Program} {loose:List Str} {XP:(Str->Option Value)->Heap->Prop} {YP:World->Heap->Prop} {d:DefRec} {K:Params->PySem.W.Frag} {c Pt:Addr} (hn:l.most=some 63) (hdf:d.params.defaults = []) (hq:importsNone q=true)
  (hY:∀ (w:World) (h:Heap),YP w h->(K w.params).In h) (hT:∀ (w:World) (h:Heap),YP w h->h.get? Pt=some (PySem.W.tabObj #[]))
  (F:(∀ w:World,PySem.W.codeHdIn (K w.params) c Pt=true)->∀ (w:World) (mg:Str->Option Value) (fa:Addr) (h:Heap),(K w.params).In h->h.Ns mainGlobals mg->mg d.name=some (.ref fa) ->
   ∃ fd:FuncData,(∀ (s:Shared) (u:Value),BindsTo s fd ⟨[u],[]⟩ [("script",u)])/\∀ base:Heap,(K w.params).In base->base.Ns mainGlobals mg->base.BuiltinsAt mg Pt->FnOk l.prog w (K w.params) mg base CX0 12 fa fd ["script"] (aA3 (K w.params) Pt))
  (hKP:∀ w:World,(K w.params).lookup Pt=none) (hC:∀ w:World,PySem.W.codeHdIn (K w.params) c Pt=true) :
  PySem.W.WalkO q loose XP YP l.row.toRowW d [] (fun f vs=>PySem.call f vs) :=
 L2.aCD (n:=63) (k:=12) (x := "script") (CX:=fun _=>CX0) (sp:=fun w=>aA3 (K w.params) Pt) (ts:=[(Pt,yA)]) hn (by decide) hdf ⟨rfl,by decide,by decide,rfl⟩ hq hY
  (fun w h Y p hp=>by rw [An.mp hp]; exact ⟨hT w h Y,hKP w,c,PySem.W.codeHd_of_K (hY w h Y) (hC w)⟩) (by simp) (fun w mg fa h a b d=>let ⟨fd,h1,h2⟩:=F hC w mg fa h a b d; ⟨fd,h1,fun base k1 k2 k3=>h2 base k1 k2 (k3 _ (Ao ..))⟩)
  (fun _ _ a ns _ hO hS=>⟨a,ns,rfl,hS,hO.2 _ (Ao ..),fun H' h=>⟨rfl,fun p hp=>by rw [An.mp hp]; exact h⟩⟩) fun _ _ _ _ _ z=>z
end Ab
open PySem PySem.W PyProof.Rows
set_option maxRecDepth 100000 in
set_option maxHeartbeats 0 in
theorem PySem.Challenge.cw_ablehands_k16_as_few_left_out_as_can_be_holds : PySem.Challenge.rw_ablehands_k16_as_few_left_out_as_can_be.Holds := by
 w_on; o_law; k_head; (case hw=>w_witness2)
 k_fill
 refine' Ab.walk (l:=PySem.Challenge.rw_ablehands_k16_as_few_left_out_as_can_be) rfl rfl (by decide +kernel) (fun w h Y=>PySem.W.km_in_of Y) (fun w h Y=>PySem.W.km_tabs_of Y _ (Ao ..)) ?F ?KP ?HC
 case F =>
  intro hC w mg fa h KX G hmg
  refine' Ab.aEk hmg ?B ?hLO ?Z ?hW ?hH ?hKw ?hBP ?hDP ?hNB ?hND ?hC ?hL ?hFA ?hHD ?hRC ?hWT ?hST ?hWY ?hNW ?hGO ?hBT ?hEV ?hWI ?hAR ?hNR ?hIG ?hIR ?hDB ?hS ?hD ?hWK ?hBK ?hNU ?hDE ?hRT ?hOT ?hLW
  case Z =>
   intro base hb
   exact ⟨hC w,by decide,hb⟩
  case hLO =>
   refine' Ab.aFj KX G (fun _ _ _ _ _ _ us hl=>match us,hl with | [_,_],_=>rfl) ?a ?l ?c ?k
   (case a=>k_is); (case l=>k_is); (case c=>k_is); (case k=>k_is)
  case B =>
   refine' Ab.aFY KX G ?z0 ?z1 ?z2 ?z3 ?z4 ?z5 ?z6 ?z7 ?z8 ?z9 ?z10 ?z11 ?z12 ?z13 ?z14 ?z15 ?z16 ?zA ?zB ?zC
   (case z0=>k_is)
   (case z1=>k_is)
   (case z2=>k_is)
   (case z3=>k_is)
   (case z4=>k_is)
   (case z5=>k_is)
   (case z6=>k_is)
   (case z7=>k_is)
   (case z8=>k_is)
   (case z9=>k_is)
   (case z10=>k_is)
   (case z11=>k_is)
   (case z12=>k_is)
   (case z13=>k_is)
   (case z14=>k_is)
   (case z15=>k_is)
   (case z16=>k_is)
   (case zA=>k_is)
   (case zB=>k_is)
   (case zC=>k_is)
  case hW =>
   refine' Ab.cK KX G (fun _ _ _ _ _ _ us hl=>match us,hl with | [_],_=>rfl) ?a ?l ?c ?k
   (case a=>k_is); (case l=>k_is); (case c=>k_is); (case k=>k_is)
  case hH =>
   refine' Ab.cK KX G (fun _ _ _ _ _ _ us hl=>match us,hl with | [_],_=>rfl) ?a ?l ?c ?k
   (case a=>k_is); (case l=>k_is); (case c=>k_is); (case k=>k_is)
  case hKw =>
   refine' Ab.cK KX G (fun _ _ _ _ _ _ us hl=>match us,hl with | [_,_],_=>rfl) ?a ?l ?c ?k
   (case a=>k_is); (case l=>k_is); (case c=>k_is); (case k=>k_is)
  case hBP =>
   refine' Ab.cK KX G (fun _ _ _ _ _ _ us hl=>match us,hl with | [_],_=>rfl) ?a ?l ?c ?k
   (case a=>k_is); (case l=>k_is); (case c=>k_is); (case k=>k_is)
  case hDP =>
   refine' Ab.cK KX G (fun _ _ _ _ _ _ us hl=>match us,hl with | [_,_],_=>rfl) ?a ?l ?c ?k
   (case a=>k_is); (case l=>k_is); (case c=>k_is); (case k=>k_is)
  case hNB =>
   refine' Ab.cK KX G (fun _ _ _ _ _ _ us hl=>match us,hl with | [_],_=>rfl) ?a ?l ?c ?k
   (case a=>k_is); (case l=>k_is); (case c=>k_is); (case k=>k_is)
  case hND =>
   refine' Ab.cK KX G (fun _ _ _ _ _ _ us hl=>match us,hl with | [_,_],_=>rfl) ?a ?l ?c ?k
   (case a=>k_is); (case l=>k_is); (case c=>k_is); (case k=>k_is)
  case hC =>
   refine' Ab.cK KX G (fun _ _ _ _ _ _ us hl=>match us,hl with | [_,_],_=>rfl) ?a ?l ?c ?k
   (case a=>k_is); (case l=>k_is); (case c=>k_is); (case k=>k_is)
  case hL =>
   refine' Ab.cK KX G (fun _ _ _ _ _ _ us hl=>match us,hl with | [_,_],_=>rfl) ?a ?l ?c ?k
   (case a=>k_is); (case l=>k_is); (case c=>k_is); (case k=>k_is)
  case hFA =>
   refine' Ab.cK KX G (fun _ _ _ _ _ _ us hl=>match us,hl with | [_,_],_=>rfl) ?a ?l ?c ?k
   (case a=>k_is); (case l=>k_is); (case c=>k_is); (case k=>k_is)
  case hHD =>
   refine' Ab.cK KX G (fun _ _ _ _ _ _ us hl=>match us,hl with | [_,_],_=>rfl) ?a ?l ?c ?k
   (case a=>k_is); (case l=>k_is); (case c=>k_is); (case k=>k_is)
  case hRC =>
   refine' Ab.cK KX G (fun _ _ _ _ _ _ us hl=>match us,hl with | [_,_],_=>rfl) ?a ?l ?c ?k
   (case a=>k_is); (case l=>k_is); (case c=>k_is); (case k=>k_is)
  case hWT =>
   refine' Ab.cK KX G (fun _ _ _ _ _ _ us hl=>match us,hl with | [_,_],_=>rfl) ?a ?l ?c ?k
   (case a=>k_is); (case l=>k_is); (case c=>k_is); (case k=>k_is)
  case hST =>
   refine' Ab.cK KX G (fun _ _ _ _ _ _ us hl=>match us,hl with | [_,_,_],_=>rfl) ?a ?l ?c ?k
   (case a=>k_is); (case l=>k_is); (case c=>k_is); (case k=>k_is)
  case hWY =>
   refine' Ab.cK KX G (fun _ _ _ _ _ _ us hl=>match us,hl with | [_,_,_],_=>rfl) ?a ?l ?c ?k
   (case a=>k_is); (case l=>k_is); (case c=>k_is); (case k=>k_is)
  case hNW =>
   refine' Ab.cK KX G (fun _ _ _ _ _ _ us hl=>match us,hl with | [_,_,_],_=>rfl) ?a ?l ?c ?k
   (case a=>k_is); (case l=>k_is); (case c=>k_is); (case k=>k_is)
  case hGO =>
   refine' Ab.cK KX G (fun _ _ _ _ _ _ us hl=>match us,hl with | [_,_,_],_=>rfl) ?a ?l ?c ?k
   (case a=>k_is); (case l=>k_is); (case c=>k_is); (case k=>k_is)
  case hBT =>
   refine' Ab.cK KX G (fun _ _ _ _ _ _ us hl=>match us,hl with | [_,_],_=>rfl) ?a ?l ?c ?k
   (case a=>k_is); (case l=>k_is); (case c=>k_is); (case k=>k_is)
  case hEV =>
   refine' Ab.cK KX G (fun _ _ _ _ _ _ us hl=>match us,hl with | [_],_=>rfl) ?a ?l ?c ?k
   (case a=>k_is); (case l=>k_is); (case c=>k_is); (case k=>k_is)
  case hWI =>
   refine' Ab.cK KX G (fun _ _ _ _ _ _ us hl=>match us,hl with | [_,_],_=>rfl) ?a ?l ?c ?k
   (case a=>k_is); (case l=>k_is); (case c=>k_is); (case k=>k_is)
  case hAR =>
   refine' Ab.cK KX G (fun _ _ _ _ _ _ us hl=>match us,hl with | [_,_],_=>rfl) ?a ?l ?c ?k
   (case a=>k_is); (case l=>k_is); (case c=>k_is); (case k=>k_is)
  case hNR =>
   refine' Ab.cK KX G (fun _ _ _ _ _ _ us hl=>match us,hl with | [_,_],_=>rfl) ?a ?l ?c ?k
   (case a=>k_is); (case l=>k_is); (case c=>k_is); (case k=>k_is)
  case hIG =>
   refine' Ab.cK KX G (fun _ _ _ _ _ _ us hl=>match us,hl with | [_,_],_=>rfl) ?a ?l ?c ?k
   (case a=>k_is); (case l=>k_is); (case c=>k_is); (case k=>k_is)
  case hIR =>
   refine' Ab.cK KX G (fun _ _ _ _ _ _ us hl=>match us,hl with | [_,_,_],_=>rfl) ?a ?l ?c ?k
   (case a=>k_is); (case l=>k_is); (case c=>k_is); (case k=>k_is)
  case hDB =>
   refine' Ab.cK KX G (fun _ _ _ _ _ _ us hl=>match us,hl with | [_,_,_,_],_=>rfl) ?a ?l ?c ?k
   (case a=>k_is); (case l=>k_is); (case c=>k_is); (case k=>k_is)
  case hS =>
   refine' Ab.cK KX G (fun _ _ _ _ _ _ us hl=>match us,hl with | [_,_],_=>rfl) ?a ?l ?c ?k
   (case a=>k_is); (case l=>k_is); (case c=>k_is); (case k=>k_is)
  case hD =>
   refine' Ab.cK KX G (fun _ _ _ _ _ _ us hl=>match us,hl with | [_,_],_=>rfl) ?a ?l ?c ?k
   (case a=>k_is); (case l=>k_is); (case c=>k_is); (case k=>k_is)
  case hWK =>
   refine' Ab.cK KX G (fun _ _ _ _ _ _ us hl=>match us,hl with | [_,_,_],_=>rfl) ?a ?l ?c ?k
   (case a=>k_is); (case l=>k_is); (case c=>k_is); (case k=>k_is)
  case hBK =>
   refine' Ab.cK KX G (fun _ _ _ _ _ _ us hl=>match us,hl with | [_,_,_],_=>rfl) ?a ?l ?c ?k
   (case a=>k_is); (case l=>k_is); (case c=>k_is); (case k=>k_is)
  case hNU =>
   refine' Ab.cK KX G (fun _ _ _ _ _ _ us hl=>match us,hl with | [_],_=>rfl) ?a ?l ?c ?k
   (case a=>k_is); (case l=>k_is); (case c=>k_is); (case k=>k_is)
  case hDE =>
   refine' Ab.cK KX G (fun _ _ _ _ _ _ us hl=>match us,hl with | [_,_,_],_=>rfl) ?a ?l ?c ?k
   (case a=>k_is); (case l=>k_is); (case c=>k_is); (case k=>k_is)
  case hRT =>
   refine' Ab.cK KX G (fun _ _ _ _ _ _ us hl=>match us,hl with | [_,_,_],_=>rfl) ?a ?l ?c ?k
   (case a=>k_is); (case l=>k_is); (case c=>k_is); (case k=>k_is)
  case hOT =>
   refine' Ab.cK KX G (fun _ _ _ _ _ _ us hl=>match us,hl with | [_,_],_=>rfl) ?a ?l ?c ?k
   (case a=>k_is); (case l=>k_is); (case c=>k_is); (case k=>k_is)
  case hLW =>
   refine' Ab.cK KX G (fun _ _ _ _ _ _ us hl=>match us,hl with | [_],_=>rfl) ?a ?l ?c ?k
   (case a=>k_is); (case l=>k_is); (case c=>k_is); (case k=>k_is)
 case KP=>intro w; first | k_is | kernel_rfl
 case HC=>intro w; kernel_rfl
